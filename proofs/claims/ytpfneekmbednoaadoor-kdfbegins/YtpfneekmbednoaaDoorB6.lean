/- The document: turn, Begin, order and mix. -/
import Derived.Test.YtpfneekmbednoaaDoorB4
namespace Go.Proofs.YtpfneekmbednoaaDoor
open Go.RowKit

theorem vo_comm (x y : Int) : vo x y = vo y x := by
  unfold vo
  rw [BitVec.or_comm]
theorem va_eq (x y : Int) : va x y = (x + y) % 4294967296 := by
  unfold va
  simp [IntKind.wrap, IntKind.signed, IntKind.bits]
theorem va_assoc (x y z : Int) : va (va x y) z = va x (va y z) := by
  rw [va_eq, va_eq, va_eq, va_eq]
  omega
theorem wrap32_nat (n : Nat) (h : n < 4294967296) : IntKind.wrap .u32 (n : Int) = (n : Int) := by
  simp [IntKind.wrap, IntKind.signed, IntKind.bits]
  omega
theorem ofInt_nat (b : BitVec 32) : BitVec.ofInt 32 (b.toNat : Int) = b := by
  apply BitVec.eq_of_toNat_eq
  rw [BitVec.toNat_ofInt]
  have := b.isLt
  omega
theorem vx_assoc (x y z : Int) : vx (vx x y) z = vx x (vx y z) := by
  have key : ∀ b : BitVec 32, IntKind.wrap .u32 (b.toNat : Int) = (b.toNat : Int) := fun b => wrap32_nat _ b.isLt
  unfold vx
  simp only [key, ofInt_nat, BitVec.xor_assoc]
def OS : Nat → ByteArray := fun j => ([⟨#[48, 49, 50, 51, 52, 53, 54, 55, 56, 57, 97, 98, 99, 100, 101, 102]⟩, ⟨#[101, 97, 52, 56, 57, 102, 100, 54, 49, 99, 48, 50, 98, 55, 53, 51]⟩, ⟨#[98, 56, 99, 48, 53, 50, 102, 100, 97, 101, 51, 54, 55, 49, 57, 52]⟩, ⟨#[55, 57, 51, 49, 100, 99, 98, 101, 50, 54, 53, 97, 52, 48, 102, 56]⟩, ⟨#[57, 48, 53, 55, 50, 52, 97, 102, 101, 49, 98, 99, 54, 56, 51, 100]⟩, ⟨#[50, 99, 54, 97, 48, 98, 56, 51, 52, 100, 55, 53, 102, 101, 49, 57]⟩, ⟨#[99, 53, 49, 102, 101, 100, 52, 97, 48, 55, 54, 51, 57, 50, 56, 98]⟩, ⟨#[100, 98, 55, 101, 99, 49, 51, 57, 53, 48, 102, 52, 56, 54, 50, 97]⟩, ⟨#[54, 102, 101, 57, 98, 51, 48, 56, 99, 50, 100, 55, 49, 52, 97, 53]⟩, ⟨#[97, 50, 56, 52, 55, 54, 49, 53, 102, 98, 57, 101, 51, 99, 100, 48]⟩] : List ByteArray).getD j ⟨#[]⟩
def zF : Nat → Value := fun j => .string (OS j)
theorem OS_size (j : Nat) (hj : j < 10) : (OS j).size = 16 := by
  have h : ((List.range 10).all fun j => (OS j).size == 16) = true := by decide +kernel
  exact eq_of_beq (List.all_eq_true.1 h j (List.mem_range.2 hj))
theorem ordA (j i : Nat) (hj : j < 10) (hi : i < 16) (h : 97 ≤ bt (OS j) i) : IntKind.wrap .i64 (cv .i64 (cv .u8 (bt (OS j) i - 97)) + 10) = (OF (j * 16 + i) : Int) := by
  have h0 : ((List.range 10).all fun j => (List.range 16).all fun i => !(decide (97 ≤ bt (OS j) i)) || IntKind.wrap .i64 (cv .i64 (cv .u8 (bt (OS j) i - 97)) + 10) == (OF (j * 16 + i) : Int)) = true := by decide +kernel
  have h1 := List.all_eq_true.1 (List.all_eq_true.1 h0 j (List.mem_range.2 hj)) i (List.mem_range.2 hi)
  simpa [h] using h1
theorem ordB (j i : Nat) (hj : j < 10) (hi : i < 16) (h : ¬ 97 ≤ bt (OS j) i) : cv .i64 (cv .u8 (bt (OS j) i - 48)) = (OF (j * 16 + i) : Int) := by
  have h0 : ((List.range 10).all fun j => (List.range 16).all fun i => decide (97 ≤ bt (OS j) i) || cv .i64 (cv .u8 (bt (OS j) i - 48)) == (OF (j * 16 + i) : Int)) = true := by decide +kernel
  have h1 := List.all_eq_true.1 (List.all_eq_true.1 h0 j (List.mem_range.2 hj)) i (List.mem_range.2 hi)
  simpa [h] using h1
def od (j : Nat) : Nat → (Nat → Int)
  | 0 => fun _ => 0
  | i + 1 => upd (od j i) i (OF (j * 16 + i) : Int)
theorem od_at (j : Nat) : ∀ n, ∀ i, i < n → od j n i = (OF (j * 16 + i) : Int)
  | 0, i, h => absurd h (by omega)
  | n + 1, i, h => by
    unfold od upd
    by_cases e : i = n
    · rw [if_pos e, e]
    · rw [if_neg e, od_at j n i (by omega)]
def oi (j : Nat) : Nat → Value := wi fun i => (OF (j * 16 + i) : Int)
theorem od_av (j : Nat) : av 16 (wi (od j 16)) = av 16 (oi j) := av_congr fun i hi => by
  unfold oi wi
  rw [od_at j 16 i hi]
theorem run_ixS {P : Program} {a : Act} {o : Oper} (t : TypeId) (hu : P.underlying t = some .string) (x ix : Operand) (ho : o.op = .index t x ix) (s : ByteArray) (hx : a.eval x = .string s) (k : IntKind) (i : Nat) (hi : a.eval ix = .int k (i : Int)) (hlt : i < s.size) (w : World) :
    (execOp a.eval o).run P w = .ok (.value (.int .u8 (bt s i))) w := by
  have e : s[i]? = some s[i] := ByteArray.getElem?_lt' s i hlt
  have e2 : bt s i = (s[i].toNat : Int) := by
    unfold bt
    rw [Array.getElem?_eq_getElem hlt]
    rfl
  unfold execOp
  simp [ho, hx, hi, Instr.index, asIntOf, run_underlying hu, e, e2]
set_option maxRecDepth 100000 in
set_option maxHeartbeats 4000000 in
theorem d_turn16 (x : Int) (w : World) (hL : Laid w)  :
    Calls Tryd.prog 39 #[.int .u32 x, .int .u64 16] w fun r w' => r = .returned (.int .u32 (rot x 16)) ∧ Below w.heap.size w w' := by
  go_enter Tryd.func39, Tryd.ntmps39
  have M := Mem.start hL
  refine wp_seq ?_
  refine rg_lit ?_
  refine pl_val (want_no rfl) (some 4) rfl (.int .u32 0) (fun _ => by kernel_rfl) ?_
  refine pl_nil ?_
  refine au_then ?_
  refine wp_seq ?_
  refine rg_lit ?_
  refine pl_val (want_no rfl) (some 5) rfl (.int .u32 x) (fun _ => by kernel_rfl) ?_
  refine pl_val (want_no rfl) (some 6) rfl (.int .u64 16) (fun _ => by kernel_rfl) ?_
  refine pl_val (want_no rfl) (some 7) rfl (.int .u32 (sr x 16)) (fun _ => by kernel_rfl) ?_
  refine pl_val (want_no rfl) (some 8) rfl (.int .u32 x) (fun _ => by kernel_rfl) ?_
  refine pl_val (want_no rfl) (some 9) rfl (.int .u64 16) (fun _ => by kernel_rfl) ?_
  refine pl_val (want_no rfl) (some 10) rfl (.int .u64 16) (fun _ => by kernel_rfl) ?_
  refine pl_val (want_no rfl) (some 11) rfl (.int .u32 (vl x 16)) (fun _ => by kernel_rfl) ?_
  refine pl_val (want_no rfl) (some 12) rfl (.int .u32 (vo (sr x 16) (vl x 16))) (fun _ => by kernel_rfl) ?_
  refine pl_val (want_no rfl) (some 4) rfl (.int .u32 (vo (sr x 16) (vl x 16))) (fun _ => by kernel_rfl) ?_
  refine pl_nil ?_
  refine au_then ?_
  refine wp_ret ?_
  refine bodyPost_ret (v := .int .u32 (rot x 16)) (Eq.trans (b := .ok (.int .u32 (vo (sr x 16) (vl x 16))) _) (results_tmp1 Tryd.results39 _ _ _ (by kernel_rfl)) (by unfold rot; rw [vo_comm])) (by kernel_rfl) ⟨rfl, below_grown M.old⟩

set_option maxRecDepth 100000 in
set_option maxHeartbeats 4000000 in
theorem d_turn12 (x : Int) (w : World) (hL : Laid w)  :
    Calls Tryd.prog 39 #[.int .u32 x, .int .u64 12] w fun r w' => r = .returned (.int .u32 (rot x 12)) ∧ Below w.heap.size w w' := by
  go_enter Tryd.func39, Tryd.ntmps39
  have M := Mem.start hL
  refine wp_seq ?_
  refine rg_lit ?_
  refine pl_val (want_no rfl) (some 4) rfl (.int .u32 0) (fun _ => by kernel_rfl) ?_
  refine pl_nil ?_
  refine au_then ?_
  refine wp_seq ?_
  refine rg_lit ?_
  refine pl_val (want_no rfl) (some 5) rfl (.int .u32 x) (fun _ => by kernel_rfl) ?_
  refine pl_val (want_no rfl) (some 6) rfl (.int .u64 12) (fun _ => by kernel_rfl) ?_
  refine pl_val (want_no rfl) (some 7) rfl (.int .u32 (sr x 12)) (fun _ => by kernel_rfl) ?_
  refine pl_val (want_no rfl) (some 8) rfl (.int .u32 x) (fun _ => by kernel_rfl) ?_
  refine pl_val (want_no rfl) (some 9) rfl (.int .u64 12) (fun _ => by kernel_rfl) ?_
  refine pl_val (want_no rfl) (some 10) rfl (.int .u64 20) (fun _ => by kernel_rfl) ?_
  refine pl_val (want_no rfl) (some 11) rfl (.int .u32 (vl x 20)) (fun _ => by kernel_rfl) ?_
  refine pl_val (want_no rfl) (some 12) rfl (.int .u32 (vo (sr x 12) (vl x 20))) (fun _ => by kernel_rfl) ?_
  refine pl_val (want_no rfl) (some 4) rfl (.int .u32 (vo (sr x 12) (vl x 20))) (fun _ => by kernel_rfl) ?_
  refine pl_nil ?_
  refine au_then ?_
  refine wp_ret ?_
  refine bodyPost_ret (v := .int .u32 (rot x 12)) (Eq.trans (b := .ok (.int .u32 (vo (sr x 12) (vl x 20))) _) (results_tmp1 Tryd.results39 _ _ _ (by kernel_rfl)) (by unfold rot; rw [vo_comm])) (by kernel_rfl) ⟨rfl, below_grown M.old⟩

set_option maxRecDepth 100000 in
set_option maxHeartbeats 4000000 in
theorem d_turn8 (x : Int) (w : World) (hL : Laid w)  :
    Calls Tryd.prog 39 #[.int .u32 x, .int .u64 8] w fun r w' => r = .returned (.int .u32 (rot x 8)) ∧ Below w.heap.size w w' := by
  go_enter Tryd.func39, Tryd.ntmps39
  have M := Mem.start hL
  refine wp_seq ?_
  refine rg_lit ?_
  refine pl_val (want_no rfl) (some 4) rfl (.int .u32 0) (fun _ => by kernel_rfl) ?_
  refine pl_nil ?_
  refine au_then ?_
  refine wp_seq ?_
  refine rg_lit ?_
  refine pl_val (want_no rfl) (some 5) rfl (.int .u32 x) (fun _ => by kernel_rfl) ?_
  refine pl_val (want_no rfl) (some 6) rfl (.int .u64 8) (fun _ => by kernel_rfl) ?_
  refine pl_val (want_no rfl) (some 7) rfl (.int .u32 (sr x 8)) (fun _ => by kernel_rfl) ?_
  refine pl_val (want_no rfl) (some 8) rfl (.int .u32 x) (fun _ => by kernel_rfl) ?_
  refine pl_val (want_no rfl) (some 9) rfl (.int .u64 8) (fun _ => by kernel_rfl) ?_
  refine pl_val (want_no rfl) (some 10) rfl (.int .u64 24) (fun _ => by kernel_rfl) ?_
  refine pl_val (want_no rfl) (some 11) rfl (.int .u32 (vl x 24)) (fun _ => by kernel_rfl) ?_
  refine pl_val (want_no rfl) (some 12) rfl (.int .u32 (vo (sr x 8) (vl x 24))) (fun _ => by kernel_rfl) ?_
  refine pl_val (want_no rfl) (some 4) rfl (.int .u32 (vo (sr x 8) (vl x 24))) (fun _ => by kernel_rfl) ?_
  refine pl_nil ?_
  refine au_then ?_
  refine wp_ret ?_
  refine bodyPost_ret (v := .int .u32 (rot x 8)) (Eq.trans (b := .ok (.int .u32 (vo (sr x 8) (vl x 24))) _) (results_tmp1 Tryd.results39 _ _ _ (by kernel_rfl)) (by unfold rot; rw [vo_comm])) (by kernel_rfl) ⟨rfl, below_grown M.old⟩

set_option maxRecDepth 100000 in
set_option maxHeartbeats 4000000 in
theorem d_turn7 (x : Int) (w : World) (hL : Laid w)  :
    Calls Tryd.prog 39 #[.int .u32 x, .int .u64 7] w fun r w' => r = .returned (.int .u32 (rot x 7)) ∧ Below w.heap.size w w' := by
  go_enter Tryd.func39, Tryd.ntmps39
  have M := Mem.start hL
  refine wp_seq ?_
  refine rg_lit ?_
  refine pl_val (want_no rfl) (some 4) rfl (.int .u32 0) (fun _ => by kernel_rfl) ?_
  refine pl_nil ?_
  refine au_then ?_
  refine wp_seq ?_
  refine rg_lit ?_
  refine pl_val (want_no rfl) (some 5) rfl (.int .u32 x) (fun _ => by kernel_rfl) ?_
  refine pl_val (want_no rfl) (some 6) rfl (.int .u64 7) (fun _ => by kernel_rfl) ?_
  refine pl_val (want_no rfl) (some 7) rfl (.int .u32 (sr x 7)) (fun _ => by kernel_rfl) ?_
  refine pl_val (want_no rfl) (some 8) rfl (.int .u32 x) (fun _ => by kernel_rfl) ?_
  refine pl_val (want_no rfl) (some 9) rfl (.int .u64 7) (fun _ => by kernel_rfl) ?_
  refine pl_val (want_no rfl) (some 10) rfl (.int .u64 25) (fun _ => by kernel_rfl) ?_
  refine pl_val (want_no rfl) (some 11) rfl (.int .u32 (vl x 25)) (fun _ => by kernel_rfl) ?_
  refine pl_val (want_no rfl) (some 12) rfl (.int .u32 (vo (sr x 7) (vl x 25))) (fun _ => by kernel_rfl) ?_
  refine pl_val (want_no rfl) (some 4) rfl (.int .u32 (vo (sr x 7) (vl x 25))) (fun _ => by kernel_rfl) ?_
  refine pl_nil ?_
  refine au_then ?_
  refine wp_ret ?_
  refine bodyPost_ret (v := .int .u32 (rot x 7)) (Eq.trans (b := .ok (.int .u32 (vo (sr x 7) (vl x 25))) _) (results_tmp1 Tryd.results39 _ _ _ (by kernel_rfl)) (by unfold rot; rw [vo_comm])) (by kernel_rfl) ⟨rfl, below_grown M.old⟩

set_option maxRecDepth 100000 in
set_option maxHeartbeats 4000000 in
theorem d_begin  (w : World) (hL : Laid w)  :
    Calls Tryd.prog 26 #[] w fun r w' => r = .returned (.agg (av 8 (w32 HB))) ∧ Below w.heap.size w w' := by
  go_enter Tryd.func26, Tryd.ntmps26
  have M := Mem.start hL
  refine wp_seq ?_
  refine rg_lit ?_
  refine pl_new M (want_no rfl) (some 0) rfl (.cells (av 8 (w32 (fun _ => 0))) 57) (fun _ => by kernel_rfl) ?_
  intro g1 u1 M
  replace M : Mem ⟨w, []⟩ [⟨g1, .cells (av 8 (w32 (fun _ => 0))) 57⟩] u1 := M
  refine pl_nil ?_
  refine au_then ?_
  refine wp_seq ?_
  refine rg_lit ?_
  refine pl_val (want_no rfl) (some 1) rfl (.agg (av 8 (w32 HB))) (fun _ => by kernel_rfl) ?_
  refine pl_put M (want_no rfl) rfl 57 _ _ rfl 0 g1 0 (by kernel_rfl) 8 57 (w32 (fun _ => 0)) rfl 8 (w32 HB) (w32 HB) (by kernel_rfl) inz57 (by decide) (fun _ _ => rfl) (fun j hj => by rw [if_pos (by omega), Nat.sub_zero]) ?_
  intro u2 M
  replace M : Mem ⟨w, []⟩ [⟨g1, .cells (av 8 (w32 HB)) 57⟩] u2 := M
  refine pl_nil ?_
  refine au_then ?_
  refine wp_ret ?_
  exact bodyPost_ret (v := .agg (av 8 (w32 HB))) (results_cell_row Tryd.results26 _ _ g1 57 (av 8 (w32 HB)) (0, 0) _ (by kernel_rfl) (M.get 0 rfl) Tryd.underlying57 rfl (by rw [av_size]; exact inz57)) (by kernel_rfl) ⟨rfl, below_grown M.old⟩

set_option maxRecDepth 100000 in
set_option maxHeartbeats 4000000 in
theorem d_order (j : Nat) (hj : j < 10) (w : World) (hL : Laid w)  :
    Calls Tryd.prog 32 #[.int .i64 (j : Int)] w fun r w' => r = .returned (.agg (av 16 (oi j))) ∧ Below w.heap.size w w' := by
  go_enter Tryd.func32, Tryd.ntmps32
  have M := Mem.start hL
  refine wp_seq ?_
  refine rg_lit ?_
  refine pl_new M (want_no rfl) (some 2) rfl (.cells (av 16 (wi (fun _ => 0))) 68) (fun _ => by kernel_rfl) ?_
  intro g1 u1 M
  replace M : Mem ⟨w, []⟩ [⟨g1, .cells (av 16 (wi (fun _ => 0))) 68⟩] u1 := M
  refine pl_nil ?_
  refine au_then ?_
  refine wp_seq ?_
  refine rg_lit ?_
  refine pl_val (want_no rfl) (some 7) rfl (.agg (av 10 zF)) (fun _ => by kernel_rfl) ?_
  refine pl_new M (want_no rfl) (some 3) rfl (.cells (av 10 (fun _ => .string ⟨#[]⟩)) 77) (fun _ => by kernel_rfl) ?_
  intro g2 u2 M
  replace M : Mem ⟨w, []⟩ [⟨g1, .cells (av 16 (wi (fun _ => 0))) 68⟩, ⟨g2, .cells (av 10 (fun _ => .string ⟨#[]⟩)) 77⟩] u2 := M
  refine pl_put M (want_no rfl) rfl 77 _ _ rfl 1 g2 0 (by kernel_rfl) 10 77 (fun _ => .string ⟨#[]⟩) rfl 10 zF zF (by kernel_rfl) inz77 (by decide) (fun _ _ => rfl) (fun j hj => by rw [if_pos (by omega), Nat.sub_zero]) ?_
  intro u3 M
  replace M : Mem ⟨w, []⟩ [⟨g1, .cells (av 16 (wi (fun _ => 0))) 68⟩, ⟨g2, .cells (av 10 zF) 77⟩] u3 := M
  refine pl_nil ?_
  refine au_then ?_
  refine wp_seq ?_
  refine rg_lit ?_
  refine pl_new M (want_no rfl) (some 4) rfl (.cells (av 16 (wi (fun _ => 0))) 68) (fun _ => by kernel_rfl) ?_
  intro g3 u4 M
  replace M : Mem ⟨w, []⟩ [⟨g1, .cells (av 16 (wi (fun _ => 0))) 68⟩, ⟨g2, .cells (av 10 zF) 77⟩, ⟨g3, .cells (av 16 (wi (fun _ => 0))) 68⟩] u4 := M
  refine pl_nil ?_
  refine au_then ?_
  refine wp_seq ?_
  refine wp_seq ?_
  refine rg_lit ?_
  refine pl_val (want_no rfl) (some 5) rfl (.int .i64 0) (fun _ => by kernel_rfl) ?_
  refine pl_nil ?_
  refine au_then ?_
  refine wp_block ?_
  refine au_loop (fun i a w' => ∃ v : Nat → Value, a = ⟨#[.int .i64 (j : Int), undef, .pointer (some ⟨g1, 0, none⟩), .pointer (some ⟨g2, 0, none⟩), .pointer (some ⟨g3, 0, none⟩), .int .i64 (i : Int), v 6, .agg (av 10 zF), v 8, v 9, v 10, v 11, v 12, v 13, v 14, v 15, v 16, v 17, v 18, v 19, v 20, v 21, v 22, v 23, v 24, v 25, v 26, v 27, v 28, v 29, undef], []⟩ ∧ Mem ⟨w, []⟩ [⟨g1, .cells (av 16 (wi (fun _ => 0))) 68⟩, ⟨g2, .cells (av 10 zF) 77⟩, ⟨g3, .cells (av 16 (wi (od j i))) 68⟩] w') 16 ⟨fun k_ => ([undef, undef, undef, undef, undef, undef, undef, undef, undef, undef, undef, undef, undef, undef, undef, undef, undef, undef, undef, undef, undef, undef, undef, undef] : List Value).getD (k_ - 6) undef, by kernel_rfl, M⟩ ?_ ?_
  · intro i a u0 hi hI
    obtain ⟨v, rfl, M⟩ := hI
    by_cases h97 : 97 ≤ bt (OS j) i
    · skip
      refine wp_seq ?_
      refine wp_seq ?_
      refine rg_lit ?_
      refine pl_val (want_no rfl) (some 8) rfl (.int .i64 (i : Int)) (fun _ => by kernel_rfl) ?_
      refine pl_val (want_no rfl) (some 9) rfl (.bool true) (fun w => Eq.trans (b := .ok (.value (.bool (decide ((i : Int) < 16)))) w) (by kernel_rfl) (by rw [decide_eq_true (by omega)])) ?_
      refine pl_nil ?_
      refine au_then ?_
      refine wp_cond_true (by kernel_rfl) ?_
      refine wp_skip ?_
      refine au_then ?_
      refine wp_seq ?_
      refine wp_block ?_
      refine wp_seq ?_
      refine rg_lit ?_
      refine pl_val (want_no rfl) (some 12) rfl (.int .i64 (j : Int)) (fun _ => by kernel_rfl) ?_
      refine pl_val (want_no rfl) (some 13) rfl (.pointer (some ⟨g2, j, none⟩)) (run_ix1 77 10 9 Tryd.underlying77 inz9 _ _ rfl g2 (by kernel_rfl) .i64 (j) (by kernel_rfl) (by omega)) ?_
      refine pl_cell M (want_no rfl) (some 14) rfl 9 _ rfl g2 j (by kernel_rfl) (.string (OS j)) (fun _ => by kernel_rfl) (fun w M => M.cell 1 rfl (by omega) rfl) ?_
      refine pl_val (want_no rfl) (some 15) rfl (.int .i64 (i : Int)) (fun _ => by kernel_rfl) ?_
      refine pl_val (want_no rfl) (some 16) rfl (.int .u8 (bt (OS j) i)) (run_ixS 9 Tryd.underlying9 _ _ rfl (OS j) (by kernel_rfl) .i64 i (by kernel_rfl) (by rw [OS_size j hj]; exact hi)) ?_
      refine pl_val (want_no rfl) (some 6) rfl (.int .u8 (bt (OS j) i)) (fun _ => by kernel_rfl) ?_
      refine pl_nil ?_
      refine au_then ?_
      refine wp_seq ?_
      refine rg_lit ?_
      refine pl_val (want_no rfl) (some 17) rfl (.int .u8 (bt (OS j) i)) (fun _ => by kernel_rfl) ?_
      refine pl_val (want_no rfl) (some 18) rfl (.bool true) (fun w => Eq.trans (b := .ok (.value (.bool (decide (97 ≤ bt (OS j) i)))) w) (by kernel_rfl) (by rw [decide_eq_true (h97)])) ?_
      refine pl_nil ?_
      refine au_then ?_
      refine wp_cond_true (by kernel_rfl) ?_
      refine rg_lit ?_
      refine pl_val (want_no rfl) (some 19) rfl (.int .i64 (i : Int)) (fun _ => by kernel_rfl) ?_
      refine pl_val (want_no rfl) (some 20) rfl (.int .u8 (bt (OS j) i)) (fun _ => by kernel_rfl) ?_
      refine pl_val (want_no rfl) (some 21) rfl (.int .u8 (cv .u8 (bt (OS j) i - 97))) (fun _ => by kernel_rfl) ?_
      refine pl_val (want_no rfl) (some 22) rfl (.int .i64 (cv .i64 (cv .u8 (bt (OS j) i - 97)))) (fun _ => by kernel_rfl) ?_
      refine pl_val (want_no rfl) (some 23) rfl (.int .i64 (OF (j * 16 + i) : Int)) (fun w => Eq.trans (b := .ok (.value (.int .i64 (IntKind.wrap .i64 (cv .i64 (cv .u8 (bt (OS j) i - 97)) + 10)))) w) (by kernel_rfl) (by rw [ordA j i hj hi h97])) ?_
      refine pl_val (want_no rfl) (some 24) rfl (.pointer (some ⟨g3, i, none⟩)) (run_ix1 68 16 3 Tryd.underlying68 inz3 _ _ rfl g3 (by kernel_rfl) .i64 (i) (by kernel_rfl) (by omega)) ?_
      refine pl_put1 M (want_no rfl) rfl 3 _ _ rfl 2 g3 i (by kernel_rfl) 16 68 (wi (od j i)) rfl (.int .i64 (OF (j * 16 + i) : Int)) (wi (upd (od j i) i (OF (j * 16 + i) : Int))) (by kernel_rfl) inz3 (by omega) rfl rfl (fun j _ => put_wi _ _ _ j) ?_
      intro u5 M
      replace M : Mem ⟨w, []⟩ [⟨g1, .cells (av 16 (wi (fun _ => 0))) 68⟩, ⟨g2, .cells (av 10 zF) 77⟩, ⟨g3, .cells (av 16 (wi (upd (od j i) i (OF (j * 16 + i) : Int)))) 68⟩] u5 := M
      refine pl_nil ?_
      refine au_block ?_
      refine au_then ?_
      refine rg_lit ?_
      refine pl_val (want_no rfl) (some 10) rfl (.int .i64 (i : Int)) (fun _ => by kernel_rfl) ?_
      refine pl_val (want_no rfl) (some 11) rfl (.int .i64 ((i + 1 : Nat) : Int)) (fun w => Eq.trans (b := .ok (.value (.int .i64 (IntKind.wrap .i64 ((i : Int) + 1)))) w) (by kernel_rfl) (by rw [wrap64 (by omega) (by omega)]; congr 3)) ?_
      refine pl_val (want_no rfl) (some 5) rfl (.int .i64 ((i + 1 : Nat) : Int)) (fun _ => by kernel_rfl) ?_
      refine pl_nil ?_
      refine au_then ?_
      exact ⟨fun k_ => ([.int .u8 (bt (OS j) i), undef, .int .i64 (i : Int), .bool true, .int .i64 (i : Int), .int .i64 ((i + 1 : Nat) : Int), .int .i64 (j : Int), .pointer (some ⟨g2, j, none⟩), .string (OS j), .int .i64 (i : Int), .int .u8 (bt (OS j) i), .int .u8 (bt (OS j) i), .bool true, .int .i64 (i : Int), .int .u8 (bt (OS j) i), .int .u8 (cv .u8 (bt (OS j) i - 97)), .int .i64 (cv .i64 (cv .u8 (bt (OS j) i - 97))), .int .i64 (OF (j * 16 + i) : Int), .pointer (some ⟨g3, i, none⟩), v 25, v 26, v 27, v 28, v 29] : List Value).getD (k_ - 6) undef, by kernel_rfl, M⟩
    · skip
      refine wp_seq ?_
      refine wp_seq ?_
      refine rg_lit ?_
      refine pl_val (want_no rfl) (some 8) rfl (.int .i64 (i : Int)) (fun _ => by kernel_rfl) ?_
      refine pl_val (want_no rfl) (some 9) rfl (.bool true) (fun w => Eq.trans (b := .ok (.value (.bool (decide ((i : Int) < 16)))) w) (by kernel_rfl) (by rw [decide_eq_true (by omega)])) ?_
      refine pl_nil ?_
      refine au_then ?_
      refine wp_cond_true (by kernel_rfl) ?_
      refine wp_skip ?_
      refine au_then ?_
      refine wp_seq ?_
      refine wp_block ?_
      refine wp_seq ?_
      refine rg_lit ?_
      refine pl_val (want_no rfl) (some 12) rfl (.int .i64 (j : Int)) (fun _ => by kernel_rfl) ?_
      refine pl_val (want_no rfl) (some 13) rfl (.pointer (some ⟨g2, j, none⟩)) (run_ix1 77 10 9 Tryd.underlying77 inz9 _ _ rfl g2 (by kernel_rfl) .i64 (j) (by kernel_rfl) (by omega)) ?_
      refine pl_cell M (want_no rfl) (some 14) rfl 9 _ rfl g2 j (by kernel_rfl) (.string (OS j)) (fun _ => by kernel_rfl) (fun w M => M.cell 1 rfl (by omega) rfl) ?_
      refine pl_val (want_no rfl) (some 15) rfl (.int .i64 (i : Int)) (fun _ => by kernel_rfl) ?_
      refine pl_val (want_no rfl) (some 16) rfl (.int .u8 (bt (OS j) i)) (run_ixS 9 Tryd.underlying9 _ _ rfl (OS j) (by kernel_rfl) .i64 i (by kernel_rfl) (by rw [OS_size j hj]; exact hi)) ?_
      refine pl_val (want_no rfl) (some 6) rfl (.int .u8 (bt (OS j) i)) (fun _ => by kernel_rfl) ?_
      refine pl_nil ?_
      refine au_then ?_
      refine wp_seq ?_
      refine rg_lit ?_
      refine pl_val (want_no rfl) (some 17) rfl (.int .u8 (bt (OS j) i)) (fun _ => by kernel_rfl) ?_
      refine pl_val (want_no rfl) (some 18) rfl (.bool false) (fun w => Eq.trans (b := .ok (.value (.bool (decide (97 ≤ bt (OS j) i)))) w) (by kernel_rfl) (by rw [decide_eq_false (h97)])) ?_
      refine pl_nil ?_
      refine au_then ?_
      refine wp_cond_false (by kernel_rfl) ?_
      refine rg_lit ?_
      refine pl_val (want_no rfl) (some 25) rfl (.int .i64 (i : Int)) (fun _ => by kernel_rfl) ?_
      refine pl_val (want_no rfl) (some 26) rfl (.int .u8 (bt (OS j) i)) (fun _ => by kernel_rfl) ?_
      refine pl_val (want_no rfl) (some 27) rfl (.int .u8 (cv .u8 (bt (OS j) i - 48))) (fun _ => by kernel_rfl) ?_
      refine pl_val (want_no rfl) (some 28) rfl (.int .i64 (OF (j * 16 + i) : Int)) (fun w => Eq.trans (b := .ok (.value (.int .i64 (cv .i64 (cv .u8 (bt (OS j) i - 48))))) w) (by kernel_rfl) (by rw [ordB j i hj hi h97])) ?_
      refine pl_val (want_no rfl) (some 29) rfl (.pointer (some ⟨g3, i, none⟩)) (run_ix1 68 16 3 Tryd.underlying68 inz3 _ _ rfl g3 (by kernel_rfl) .i64 (i) (by kernel_rfl) (by omega)) ?_
      refine pl_put1 M (want_no rfl) rfl 3 _ _ rfl 2 g3 i (by kernel_rfl) 16 68 (wi (od j i)) rfl (.int .i64 (OF (j * 16 + i) : Int)) (wi (upd (od j i) i (OF (j * 16 + i) : Int))) (by kernel_rfl) inz3 (by omega) rfl rfl (fun j _ => put_wi _ _ _ j) ?_
      intro u6 M
      replace M : Mem ⟨w, []⟩ [⟨g1, .cells (av 16 (wi (fun _ => 0))) 68⟩, ⟨g2, .cells (av 10 zF) 77⟩, ⟨g3, .cells (av 16 (wi (upd (od j i) i (OF (j * 16 + i) : Int)))) 68⟩] u6 := M
      refine pl_nil ?_
      refine au_block ?_
      refine au_then ?_
      refine rg_lit ?_
      refine pl_val (want_no rfl) (some 10) rfl (.int .i64 (i : Int)) (fun _ => by kernel_rfl) ?_
      refine pl_val (want_no rfl) (some 11) rfl (.int .i64 ((i + 1 : Nat) : Int)) (fun w => Eq.trans (b := .ok (.value (.int .i64 (IntKind.wrap .i64 ((i : Int) + 1)))) w) (by kernel_rfl) (by rw [wrap64 (by omega) (by omega)]; congr 3)) ?_
      refine pl_val (want_no rfl) (some 5) rfl (.int .i64 ((i + 1 : Nat) : Int)) (fun _ => by kernel_rfl) ?_
      refine pl_nil ?_
      refine au_then ?_
      exact ⟨fun k_ => ([.int .u8 (bt (OS j) i), undef, .int .i64 (i : Int), .bool true, .int .i64 (i : Int), .int .i64 ((i + 1 : Nat) : Int), .int .i64 (j : Int), .pointer (some ⟨g2, j, none⟩), .string (OS j), .int .i64 (i : Int), .int .u8 (bt (OS j) i), .int .u8 (bt (OS j) i), .bool false, v 19, v 20, v 21, v 22, v 23, v 24, .int .i64 (i : Int), .int .u8 (bt (OS j) i), .int .u8 (cv .u8 (bt (OS j) i - 48)), .int .i64 (OF (j * 16 + i) : Int), .pointer (some ⟨g3, i, none⟩)] : List Value).getD (k_ - 6) undef, by kernel_rfl, M⟩
  · intro a u0 hI
    obtain ⟨v, rfl, M⟩ := hI
    refine wp_seq ?_
    refine wp_seq ?_
    refine rg_lit ?_
    refine pl_val (want_no rfl) (some 8) rfl (.int .i64 16) (fun _ => by kernel_rfl) ?_
    refine pl_val (want_no rfl) (some 9) rfl (.bool false) (fun _ => by kernel_rfl) ?_
    refine pl_nil ?_
    refine au_then ?_
    refine wp_cond_false (by kernel_rfl) ?_
    refine wp_exit ?_
    refine au_then_exit ?_
    refine au_then_exit ?_
    refine au_block_exit ?_
    refine au_then ?_
    refine wp_seq ?_
    refine rg_lit ?_
    refine pl_load M (want_no rfl) (some 30) rfl 68 _ rfl 2 g3 0 (by kernel_rfl) 16 68 (wi (od j 16)) rfl 16 (wi (od j 16)) (fun j _ => by rw [Nat.zero_add]) (by decide) _ Tryd.underlying68 rfl inz68 ?_
    refine pl_put M (want_no rfl) rfl 68 _ _ rfl 0 g1 0 (by kernel_rfl) 16 68 (wi (fun _ => 0)) rfl 16 (wi (od j 16)) (wi (od j 16)) (by kernel_rfl) inz68 (by decide) (fun _ _ => rfl) (fun j hj => by rw [if_pos (by omega), Nat.sub_zero]) ?_
    intro u7 M
    replace M : Mem ⟨w, []⟩ [⟨g1, .cells (av 16 (wi (od j 16))) 68⟩, ⟨g2, .cells (av 10 zF) 77⟩, ⟨g3, .cells (av 16 (wi (od j 16))) 68⟩] u7 := M
    refine pl_nil ?_
    refine au_then ?_
    refine wp_ret ?_
    refine bodyPost_ret (v := .agg (av 16 (oi j))) (Eq.trans (b := .ok (.agg (av 16 (wi (od j 16)))) _) (results_cell_row Tryd.results32 _ _ g1 68 (av 16 (wi (od j 16))) (0, 0) _ (by kernel_rfl) (M.get 0 rfl) Tryd.underlying68 rfl (by rw [av_size]; exact inz68)) (by rw [od_av])) (by kernel_rfl) ⟨rfl, below_grown M.old⟩

def dA (u : Nat → Int) (x : Int) (i j : Nat) : Nat → Int := upd u i (va (va (u i) (u j)) x)
def dD (u : Nat → Int) (l i n : Nat) : Nat → Int := upd u l (rot (vx (u l) (u i)) n)
def dC (u : Nat → Int) (k l : Nat) : Nat → Int := upd u k (va (u k) (u l))
def e1 (v : Nat → Int) (x : Int) (p0 p1 : Nat) : Nat → Int := dA v x p0 p1
def e2 (v : Nat → Int) (x : Int) (p0 p1 p3 : Nat) : Nat → Int := dD (e1 v x p0 p1) p3 p0 16
def e3 (v : Nat → Int) (x : Int) (p0 p1 p2 p3 : Nat) : Nat → Int := dC (e2 v x p0 p1 p3) p2 p3
def e4 (v : Nat → Int) (x : Int) (p0 p1 p2 p3 : Nat) : Nat → Int := dD (e3 v x p0 p1 p2 p3) p1 p2 12
def e5 (v : Nat → Int) (x y : Int) (p0 p1 p2 p3 : Nat) : Nat → Int := dA (e4 v x p0 p1 p2 p3) y p0 p1
def e6 (v : Nat → Int) (x y : Int) (p0 p1 p2 p3 : Nat) : Nat → Int := dD (e5 v x y p0 p1 p2 p3) p3 p0 8
def e7 (v : Nat → Int) (x y : Int) (p0 p1 p2 p3 : Nat) : Nat → Int := dC (e6 v x y p0 p1 p2 p3) p2 p3
def e8 (v : Nat → Int) (x y : Int) (p0 p1 p2 p3 : Nat) : Nat → Int := dD (e7 v x y p0 p1 p2 p3) p1 p2 7
theorem e8_eq (v : Nat → Int) (x y : Int) (i j k l : Nat) (hij : i ≠ j) (hik : i ≠ k) (hil : i ≠ l) (hjk : j ≠ k) (hjl : j ≠ l) (hkl : k ≠ l) : e8 v x y i j k l = mxF v x y i j k l := by
  have a1 : e1 v x i j = upd v i (mA1 v x i j) := by
    unfold e1 dA mA1
    rw [va_assoc]
  have a2 : e2 v x i j l = upd (upd v i (mA1 v x i j)) l (mD1 v x i j l) := by
    unfold e2 dD mD1
    rw [a1]
    simp only [upd, if_true, if_neg (Ne.symm hil)]
  have a3 : e3 v x i j k l = upd (upd (upd v i (mA1 v x i j)) l (mD1 v x i j l)) k (mC1 v x i j k l) := by
    unfold e3 dC mC1
    rw [a2]
    simp only [upd, if_true, if_neg hkl, if_neg (Ne.symm hik)]
  have a4 : e4 v x i j k l = upd (upd (upd (upd v i (mA1 v x i j)) l (mD1 v x i j l)) k (mC1 v x i j k l)) j (mB1 v x i j k l) := by
    unfold e4 dD mB1
    rw [a3]
    simp only [upd, if_true, if_neg hjk, if_neg hjl, if_neg (Ne.symm hij)]
  have a5 : e5 v x y i j k l = upd (e4 v x i j k l) i (mA2 v x y i j k l) := by
    unfold e5 dA mA2
    rw [va_assoc, a4]
    simp only [upd, if_true, if_neg hij, if_neg hik, if_neg hil]
  have a6 : e6 v x y i j k l = upd (e5 v x y i j k l) l (mD2 v x y i j k l) := by
    unfold e6 dD mD2
    rw [a5, a4]
    simp only [upd, if_true, if_neg (Ne.symm hil), if_neg (Ne.symm hjl), if_neg (Ne.symm hkl)]
  have a7 : e7 v x y i j k l = upd (e6 v x y i j k l) k (mC2 v x y i j k l) := by
    unfold e7 dC mC2
    rw [a6, a5, a4]
    simp only [upd, if_true, if_neg hkl, if_neg (Ne.symm hik), if_neg (Ne.symm hjk)]
  have a8 : e8 v x y i j k l = upd (e7 v x y i j k l) j (mB2 v x y i j k l) := by
    unfold e8 dD mB2
    rw [a7, a6, a5, a4]
    simp only [upd, if_true, if_neg hjk, if_neg hjl, if_neg (Ne.symm hij)]
  rw [a8, a7, a6, a5, a4]
  funext t
  unfold mxF upd
  by_cases h1 : t = l
  · subst h1
    simp [Ne.symm hjl, Ne.symm hkl]
  · by_cases h2 : t = k
    · subst h2
      simp [h1, Ne.symm hjk]
    · by_cases h3 : t = j
      · subst h3
        simp [h1, h2]
      · by_cases h4 : t = i
        · subst h4
          simp [h1, h2, h3]
        · simp [h1, h2, h3, h4]

set_option maxRecDepth 100000 in
set_option maxHeartbeats 4000000 in
theorem d_mix (v : Nat → Int) (x y : Int) (p0 p1 p2 p3 : Nat) (h0 : p0 < 16) (h1 : p1 < 16) (h2 : p2 < 16) (h3 : p3 < 16) (d0 : p0 ≠ p1) (d1 : p0 ≠ p2) (d2 : p0 ≠ p3) (d3 : p1 ≠ p2) (d4 : p1 ≠ p3) (d5 : p2 ≠ p3) (w : World) (hL : Laid w)  :
    Calls Tryd.prog 33 #[.agg (av 16 (w32 v)), .int .i64 (p0 : Int), .int .i64 (p1 : Int), .int .i64 (p2 : Int), .int .i64 (p3 : Int), .int .u32 x, .int .u32 y] w fun r w' => r = .returned (.agg (av 16 (w32 (mxF v x y p0 p1 p2 p3)))) ∧ Below w.heap.size w w' := by
  go_enter Tryd.func33, Tryd.ntmps33
  have M := Mem.start hL
  refine wp_seq ?_
  refine rg_lit ?_
  refine pl_new M (want_no rfl) (some 7) rfl (.cells (av 16 (w32 v)) 67) (fun _ => by kernel_rfl) ?_
  intro g1 u1 M
  replace M : Mem ⟨w, []⟩ [⟨g1, .cells (av 16 (w32 v)) 67⟩] u1 := M
  refine pl_new M (want_no rfl) (some 14) rfl (.cells (av 16 (w32 (fun _ => 0))) 67) (fun _ => by kernel_rfl) ?_
  intro g2 u2 M
  replace M : Mem ⟨w, []⟩ [⟨g1, .cells (av 16 (w32 v)) 67⟩, ⟨g2, .cells (av 16 (w32 (fun _ => 0))) 67⟩] u2 := M
  refine pl_nil ?_
  refine au_then ?_
  refine wp_seq ?_
  refine rg_tail M 11 (by kernel_rfl) (by kernel_rfl) ?_
  simp only [List.take_succ_cons, List.take_zero]
  refine k_val (want_no rfl) (some 15) rfl (.int .i64 (p0 : Int)) (fun _ => by kernel_rfl) ?_
  refine k_val (want_no rfl) (some 16) rfl (.int .i64 (p0 : Int)) (fun _ => by kernel_rfl) ?_
  refine k_val (want_no rfl) (some 17) rfl (.pointer (some ⟨g1, p0, none⟩)) (run_ix1 67 16 56 Tryd.underlying67 inz56 _ _ rfl g1 (by kernel_rfl) .i64 (p0) (by kernel_rfl) (by omega)) ?_
  refine k_cell M (want_no rfl) (some 18) rfl 56 _ rfl g1 p0 (by kernel_rfl) (.int .u32 (v p0)) (fun _ => by kernel_rfl) (fun w M => M.cell 0 rfl (by omega) rfl) ?_
  refine k_val (want_no rfl) (some 19) rfl (.int .i64 (p1 : Int)) (fun _ => by kernel_rfl) ?_
  refine k_val (want_no rfl) (some 20) rfl (.pointer (some ⟨g1, p1, none⟩)) (run_ix1 67 16 56 Tryd.underlying67 inz56 _ _ rfl g1 (by kernel_rfl) .i64 (p1) (by kernel_rfl) (by omega)) ?_
  refine k_cell M (want_no rfl) (some 21) rfl 56 _ rfl g1 p1 (by kernel_rfl) (.int .u32 (v p1)) (fun _ => by kernel_rfl) (fun w M => M.cell 0 rfl (by omega) rfl) ?_
  refine k_val (want_no rfl) (some 22) rfl (.int .u32 (va (v p0) (v p1))) (fun _ => by kernel_rfl) ?_
  refine k_val (want_no rfl) (some 23) rfl (.int .u32 x) (fun _ => by kernel_rfl) ?_
  refine k_val (want_no rfl) (some 24) rfl (.int .u32 (va (va (v p0) (v p1)) x)) (fun _ => by kernel_rfl) ?_
  refine k_val (want_no rfl) (some 25) rfl (.pointer (some ⟨g1, p0, none⟩)) (run_ix1 67 16 56 Tryd.underlying67 inz56 _ _ rfl g1 (by kernel_rfl) .i64 (p0) (by kernel_rfl) (by omega)) ?_
  refine kl_nil ?_
  intro u3 M
  replace M : Mem ⟨w, []⟩ [⟨g1, .cells (av 16 (w32 v)) 67⟩, ⟨g2, .cells (av 16 (w32 (fun _ => 0))) 67⟩] u3 := M
  refine pl_put1 M (want_no rfl) rfl 56 _ _ rfl 0 g1 p0 (by kernel_rfl) 16 67 (w32 v) rfl (.int .u32 (va (va (v p0) (v p1)) x)) (w32 (upd v p0 (va (va (v p0) (v p1)) x))) (by kernel_rfl) inz56 (by omega) rfl rfl (fun j _ => put_w32 _ _ _ j) ?_
  intro u4 M
  replace M : Mem ⟨w, []⟩ [⟨g1, .cells (av 16 (w32 (upd v p0 (va (va (v p0) (v p1)) x)))) 67⟩, ⟨g2, .cells (av 16 (w32 (fun _ => 0))) 67⟩] u4 := M
  refine pl_nil ?_
  replace M : Mem ⟨w, []⟩ [⟨g1, .cells (av 16 (w32 (e1 v x p0 p1))) 67⟩, ⟨g2, .cells (av 16 (w32 (fun _ => 0))) 67⟩] u4 := M
  refine au_then ?_
  refine wp_seq ?_
  refine rg_tail M 10 (by kernel_rfl) (by kernel_rfl) ?_
  simp only [List.take_succ_cons, List.take_zero]
  refine k_val (want_no rfl) (some 26) rfl (.int .i64 (p3 : Int)) (fun _ => by kernel_rfl) ?_
  refine k_val (want_no rfl) (some 27) rfl (.int .i64 (p3 : Int)) (fun _ => by kernel_rfl) ?_
  refine k_val (want_no rfl) (some 28) rfl (.pointer (some ⟨g1, p3, none⟩)) (run_ix1 67 16 56 Tryd.underlying67 inz56 _ _ rfl g1 (by kernel_rfl) .i64 (p3) (by kernel_rfl) (by omega)) ?_
  refine k_cell M (want_no rfl) (some 29) rfl 56 _ rfl g1 p3 (by kernel_rfl) (.int .u32 ((e1 v x p0 p1) p3)) (fun _ => by kernel_rfl) (fun w M => M.cell 0 rfl (by omega) rfl) ?_
  refine k_val (want_no rfl) (some 30) rfl (.int .i64 (p0 : Int)) (fun _ => by kernel_rfl) ?_
  refine k_val (want_no rfl) (some 31) rfl (.pointer (some ⟨g1, p0, none⟩)) (run_ix1 67 16 56 Tryd.underlying67 inz56 _ _ rfl g1 (by kernel_rfl) .i64 (p0) (by kernel_rfl) (by omega)) ?_
  refine k_cell M (want_no rfl) (some 32) rfl 56 _ rfl g1 p0 (by kernel_rfl) (.int .u32 ((e1 v x p0 p1) p0)) (fun _ => by kernel_rfl) (fun w M => M.cell 0 rfl (by omega) rfl) ?_
  refine k_val (want_no rfl) (some 33) rfl (.int .u32 (vx ((e1 v x p0 p1) p3) ((e1 v x p0 p1) p0))) (fun _ => by kernel_rfl) ?_
  refine k_call M (want_no rfl) (some 34) rfl 39 #[.int .u32 (vx ((e1 v x p0 p1) p3) ((e1 v x p0 p1) p0)), .int .u64 16] (.int .u32 (rot (vx ((e1 v x p0 p1) p3) ((e1 v x p0 p1) p0)) 16)) (fun _ => by kernel_rfl) (fun w M => d_turn16 _ w M.laid) ?_
  refine k_val (want_no rfl) (some 35) rfl (.pointer (some ⟨g1, p3, none⟩)) (run_ix1 67 16 56 Tryd.underlying67 inz56 _ _ rfl g1 (by kernel_rfl) .i64 (p3) (by kernel_rfl) (by omega)) ?_
  refine kl_nil ?_
  intro u5 M
  replace M : Mem ⟨w, []⟩ [⟨g1, .cells (av 16 (w32 (e1 v x p0 p1))) 67⟩, ⟨g2, .cells (av 16 (w32 (fun _ => 0))) 67⟩] u5 := M
  refine pl_put1 M (want_no rfl) rfl 56 _ _ rfl 0 g1 p3 (by kernel_rfl) 16 67 (w32 (e1 v x p0 p1)) rfl (.int .u32 (rot (vx ((e1 v x p0 p1) p3) ((e1 v x p0 p1) p0)) 16)) (w32 (upd (e1 v x p0 p1) p3 (rot (vx ((e1 v x p0 p1) p3) ((e1 v x p0 p1) p0)) 16))) (by kernel_rfl) inz56 (by omega) rfl rfl (fun j _ => put_w32 _ _ _ j) ?_
  intro u6 M
  replace M : Mem ⟨w, []⟩ [⟨g1, .cells (av 16 (w32 (upd (e1 v x p0 p1) p3 (rot (vx ((e1 v x p0 p1) p3) ((e1 v x p0 p1) p0)) 16)))) 67⟩, ⟨g2, .cells (av 16 (w32 (fun _ => 0))) 67⟩] u6 := M
  refine pl_nil ?_
  replace M : Mem ⟨w, []⟩ [⟨g1, .cells (av 16 (w32 (e2 v x p0 p1 p3))) 67⟩, ⟨g2, .cells (av 16 (w32 (fun _ => 0))) 67⟩] u6 := M
  refine au_then ?_
  refine wp_seq ?_
  refine rg_tail M 9 (by kernel_rfl) (by kernel_rfl) ?_
  simp only [List.take_succ_cons, List.take_zero]
  refine k_val (want_no rfl) (some 36) rfl (.int .i64 (p2 : Int)) (fun _ => by kernel_rfl) ?_
  refine k_val (want_no rfl) (some 37) rfl (.int .i64 (p2 : Int)) (fun _ => by kernel_rfl) ?_
  refine k_val (want_no rfl) (some 38) rfl (.pointer (some ⟨g1, p2, none⟩)) (run_ix1 67 16 56 Tryd.underlying67 inz56 _ _ rfl g1 (by kernel_rfl) .i64 (p2) (by kernel_rfl) (by omega)) ?_
  refine k_cell M (want_no rfl) (some 39) rfl 56 _ rfl g1 p2 (by kernel_rfl) (.int .u32 ((e2 v x p0 p1 p3) p2)) (fun _ => by kernel_rfl) (fun w M => M.cell 0 rfl (by omega) rfl) ?_
  refine k_val (want_no rfl) (some 40) rfl (.int .i64 (p3 : Int)) (fun _ => by kernel_rfl) ?_
  refine k_val (want_no rfl) (some 41) rfl (.pointer (some ⟨g1, p3, none⟩)) (run_ix1 67 16 56 Tryd.underlying67 inz56 _ _ rfl g1 (by kernel_rfl) .i64 (p3) (by kernel_rfl) (by omega)) ?_
  refine k_cell M (want_no rfl) (some 42) rfl 56 _ rfl g1 p3 (by kernel_rfl) (.int .u32 ((e2 v x p0 p1 p3) p3)) (fun _ => by kernel_rfl) (fun w M => M.cell 0 rfl (by omega) rfl) ?_
  refine k_val (want_no rfl) (some 43) rfl (.int .u32 (va ((e2 v x p0 p1 p3) p2) ((e2 v x p0 p1 p3) p3))) (fun _ => by kernel_rfl) ?_
  refine k_val (want_no rfl) (some 44) rfl (.pointer (some ⟨g1, p2, none⟩)) (run_ix1 67 16 56 Tryd.underlying67 inz56 _ _ rfl g1 (by kernel_rfl) .i64 (p2) (by kernel_rfl) (by omega)) ?_
  refine kl_nil ?_
  intro u7 M
  replace M : Mem ⟨w, []⟩ [⟨g1, .cells (av 16 (w32 (e2 v x p0 p1 p3))) 67⟩, ⟨g2, .cells (av 16 (w32 (fun _ => 0))) 67⟩] u7 := M
  refine pl_put1 M (want_no rfl) rfl 56 _ _ rfl 0 g1 p2 (by kernel_rfl) 16 67 (w32 (e2 v x p0 p1 p3)) rfl (.int .u32 (va ((e2 v x p0 p1 p3) p2) ((e2 v x p0 p1 p3) p3))) (w32 (upd (e2 v x p0 p1 p3) p2 (va ((e2 v x p0 p1 p3) p2) ((e2 v x p0 p1 p3) p3)))) (by kernel_rfl) inz56 (by omega) rfl rfl (fun j _ => put_w32 _ _ _ j) ?_
  intro u8 M
  replace M : Mem ⟨w, []⟩ [⟨g1, .cells (av 16 (w32 (upd (e2 v x p0 p1 p3) p2 (va ((e2 v x p0 p1 p3) p2) ((e2 v x p0 p1 p3) p3))))) 67⟩, ⟨g2, .cells (av 16 (w32 (fun _ => 0))) 67⟩] u8 := M
  refine pl_nil ?_
  replace M : Mem ⟨w, []⟩ [⟨g1, .cells (av 16 (w32 (e3 v x p0 p1 p2 p3))) 67⟩, ⟨g2, .cells (av 16 (w32 (fun _ => 0))) 67⟩] u8 := M
  refine au_then ?_
  refine wp_seq ?_
  refine rg_tail M 10 (by kernel_rfl) (by kernel_rfl) ?_
  simp only [List.take_succ_cons, List.take_zero]
  refine k_val (want_no rfl) (some 45) rfl (.int .i64 (p1 : Int)) (fun _ => by kernel_rfl) ?_
  refine k_val (want_no rfl) (some 46) rfl (.int .i64 (p1 : Int)) (fun _ => by kernel_rfl) ?_
  refine k_val (want_no rfl) (some 47) rfl (.pointer (some ⟨g1, p1, none⟩)) (run_ix1 67 16 56 Tryd.underlying67 inz56 _ _ rfl g1 (by kernel_rfl) .i64 (p1) (by kernel_rfl) (by omega)) ?_
  refine k_cell M (want_no rfl) (some 48) rfl 56 _ rfl g1 p1 (by kernel_rfl) (.int .u32 ((e3 v x p0 p1 p2 p3) p1)) (fun _ => by kernel_rfl) (fun w M => M.cell 0 rfl (by omega) rfl) ?_
  refine k_val (want_no rfl) (some 49) rfl (.int .i64 (p2 : Int)) (fun _ => by kernel_rfl) ?_
  refine k_val (want_no rfl) (some 50) rfl (.pointer (some ⟨g1, p2, none⟩)) (run_ix1 67 16 56 Tryd.underlying67 inz56 _ _ rfl g1 (by kernel_rfl) .i64 (p2) (by kernel_rfl) (by omega)) ?_
  refine k_cell M (want_no rfl) (some 51) rfl 56 _ rfl g1 p2 (by kernel_rfl) (.int .u32 ((e3 v x p0 p1 p2 p3) p2)) (fun _ => by kernel_rfl) (fun w M => M.cell 0 rfl (by omega) rfl) ?_
  refine k_val (want_no rfl) (some 52) rfl (.int .u32 (vx ((e3 v x p0 p1 p2 p3) p1) ((e3 v x p0 p1 p2 p3) p2))) (fun _ => by kernel_rfl) ?_
  refine k_call M (want_no rfl) (some 53) rfl 39 #[.int .u32 (vx ((e3 v x p0 p1 p2 p3) p1) ((e3 v x p0 p1 p2 p3) p2)), .int .u64 12] (.int .u32 (rot (vx ((e3 v x p0 p1 p2 p3) p1) ((e3 v x p0 p1 p2 p3) p2)) 12)) (fun _ => by kernel_rfl) (fun w M => d_turn12 _ w M.laid) ?_
  refine k_val (want_no rfl) (some 54) rfl (.pointer (some ⟨g1, p1, none⟩)) (run_ix1 67 16 56 Tryd.underlying67 inz56 _ _ rfl g1 (by kernel_rfl) .i64 (p1) (by kernel_rfl) (by omega)) ?_
  refine kl_nil ?_
  intro u9 M
  replace M : Mem ⟨w, []⟩ [⟨g1, .cells (av 16 (w32 (e3 v x p0 p1 p2 p3))) 67⟩, ⟨g2, .cells (av 16 (w32 (fun _ => 0))) 67⟩] u9 := M
  refine pl_put1 M (want_no rfl) rfl 56 _ _ rfl 0 g1 p1 (by kernel_rfl) 16 67 (w32 (e3 v x p0 p1 p2 p3)) rfl (.int .u32 (rot (vx ((e3 v x p0 p1 p2 p3) p1) ((e3 v x p0 p1 p2 p3) p2)) 12)) (w32 (upd (e3 v x p0 p1 p2 p3) p1 (rot (vx ((e3 v x p0 p1 p2 p3) p1) ((e3 v x p0 p1 p2 p3) p2)) 12))) (by kernel_rfl) inz56 (by omega) rfl rfl (fun j _ => put_w32 _ _ _ j) ?_
  intro u10 M
  replace M : Mem ⟨w, []⟩ [⟨g1, .cells (av 16 (w32 (upd (e3 v x p0 p1 p2 p3) p1 (rot (vx ((e3 v x p0 p1 p2 p3) p1) ((e3 v x p0 p1 p2 p3) p2)) 12)))) 67⟩, ⟨g2, .cells (av 16 (w32 (fun _ => 0))) 67⟩] u10 := M
  refine pl_nil ?_
  replace M : Mem ⟨w, []⟩ [⟨g1, .cells (av 16 (w32 (e4 v x p0 p1 p2 p3))) 67⟩, ⟨g2, .cells (av 16 (w32 (fun _ => 0))) 67⟩] u10 := M
  refine au_then ?_
  refine wp_seq ?_
  refine rg_tail M 11 (by kernel_rfl) (by kernel_rfl) ?_
  simp only [List.take_succ_cons, List.take_zero]
  refine k_val (want_no rfl) (some 55) rfl (.int .i64 (p0 : Int)) (fun _ => by kernel_rfl) ?_
  refine k_val (want_no rfl) (some 56) rfl (.int .i64 (p0 : Int)) (fun _ => by kernel_rfl) ?_
  refine k_val (want_no rfl) (some 57) rfl (.pointer (some ⟨g1, p0, none⟩)) (run_ix1 67 16 56 Tryd.underlying67 inz56 _ _ rfl g1 (by kernel_rfl) .i64 (p0) (by kernel_rfl) (by omega)) ?_
  refine k_cell M (want_no rfl) (some 58) rfl 56 _ rfl g1 p0 (by kernel_rfl) (.int .u32 ((e4 v x p0 p1 p2 p3) p0)) (fun _ => by kernel_rfl) (fun w M => M.cell 0 rfl (by omega) rfl) ?_
  refine k_val (want_no rfl) (some 59) rfl (.int .i64 (p1 : Int)) (fun _ => by kernel_rfl) ?_
  refine k_val (want_no rfl) (some 60) rfl (.pointer (some ⟨g1, p1, none⟩)) (run_ix1 67 16 56 Tryd.underlying67 inz56 _ _ rfl g1 (by kernel_rfl) .i64 (p1) (by kernel_rfl) (by omega)) ?_
  refine k_cell M (want_no rfl) (some 61) rfl 56 _ rfl g1 p1 (by kernel_rfl) (.int .u32 ((e4 v x p0 p1 p2 p3) p1)) (fun _ => by kernel_rfl) (fun w M => M.cell 0 rfl (by omega) rfl) ?_
  refine k_val (want_no rfl) (some 62) rfl (.int .u32 (va ((e4 v x p0 p1 p2 p3) p0) ((e4 v x p0 p1 p2 p3) p1))) (fun _ => by kernel_rfl) ?_
  refine k_val (want_no rfl) (some 63) rfl (.int .u32 y) (fun _ => by kernel_rfl) ?_
  refine k_val (want_no rfl) (some 64) rfl (.int .u32 (va (va ((e4 v x p0 p1 p2 p3) p0) ((e4 v x p0 p1 p2 p3) p1)) y)) (fun _ => by kernel_rfl) ?_
  refine k_val (want_no rfl) (some 65) rfl (.pointer (some ⟨g1, p0, none⟩)) (run_ix1 67 16 56 Tryd.underlying67 inz56 _ _ rfl g1 (by kernel_rfl) .i64 (p0) (by kernel_rfl) (by omega)) ?_
  refine kl_nil ?_
  intro u11 M
  replace M : Mem ⟨w, []⟩ [⟨g1, .cells (av 16 (w32 (e4 v x p0 p1 p2 p3))) 67⟩, ⟨g2, .cells (av 16 (w32 (fun _ => 0))) 67⟩] u11 := M
  refine pl_put1 M (want_no rfl) rfl 56 _ _ rfl 0 g1 p0 (by kernel_rfl) 16 67 (w32 (e4 v x p0 p1 p2 p3)) rfl (.int .u32 (va (va ((e4 v x p0 p1 p2 p3) p0) ((e4 v x p0 p1 p2 p3) p1)) y)) (w32 (upd (e4 v x p0 p1 p2 p3) p0 (va (va ((e4 v x p0 p1 p2 p3) p0) ((e4 v x p0 p1 p2 p3) p1)) y))) (by kernel_rfl) inz56 (by omega) rfl rfl (fun j _ => put_w32 _ _ _ j) ?_
  intro u12 M
  replace M : Mem ⟨w, []⟩ [⟨g1, .cells (av 16 (w32 (upd (e4 v x p0 p1 p2 p3) p0 (va (va ((e4 v x p0 p1 p2 p3) p0) ((e4 v x p0 p1 p2 p3) p1)) y)))) 67⟩, ⟨g2, .cells (av 16 (w32 (fun _ => 0))) 67⟩] u12 := M
  refine pl_nil ?_
  replace M : Mem ⟨w, []⟩ [⟨g1, .cells (av 16 (w32 (e5 v x y p0 p1 p2 p3))) 67⟩, ⟨g2, .cells (av 16 (w32 (fun _ => 0))) 67⟩] u12 := M
  refine au_then ?_
  refine wp_seq ?_
  refine rg_tail M 10 (by kernel_rfl) (by kernel_rfl) ?_
  simp only [List.take_succ_cons, List.take_zero]
  refine k_val (want_no rfl) (some 66) rfl (.int .i64 (p3 : Int)) (fun _ => by kernel_rfl) ?_
  refine k_val (want_no rfl) (some 67) rfl (.int .i64 (p3 : Int)) (fun _ => by kernel_rfl) ?_
  refine k_val (want_no rfl) (some 68) rfl (.pointer (some ⟨g1, p3, none⟩)) (run_ix1 67 16 56 Tryd.underlying67 inz56 _ _ rfl g1 (by kernel_rfl) .i64 (p3) (by kernel_rfl) (by omega)) ?_
  refine k_cell M (want_no rfl) (some 69) rfl 56 _ rfl g1 p3 (by kernel_rfl) (.int .u32 ((e5 v x y p0 p1 p2 p3) p3)) (fun _ => by kernel_rfl) (fun w M => M.cell 0 rfl (by omega) rfl) ?_
  refine k_val (want_no rfl) (some 70) rfl (.int .i64 (p0 : Int)) (fun _ => by kernel_rfl) ?_
  refine k_val (want_no rfl) (some 71) rfl (.pointer (some ⟨g1, p0, none⟩)) (run_ix1 67 16 56 Tryd.underlying67 inz56 _ _ rfl g1 (by kernel_rfl) .i64 (p0) (by kernel_rfl) (by omega)) ?_
  refine k_cell M (want_no rfl) (some 72) rfl 56 _ rfl g1 p0 (by kernel_rfl) (.int .u32 ((e5 v x y p0 p1 p2 p3) p0)) (fun _ => by kernel_rfl) (fun w M => M.cell 0 rfl (by omega) rfl) ?_
  refine k_val (want_no rfl) (some 73) rfl (.int .u32 (vx ((e5 v x y p0 p1 p2 p3) p3) ((e5 v x y p0 p1 p2 p3) p0))) (fun _ => by kernel_rfl) ?_
  refine k_call M (want_no rfl) (some 74) rfl 39 #[.int .u32 (vx ((e5 v x y p0 p1 p2 p3) p3) ((e5 v x y p0 p1 p2 p3) p0)), .int .u64 8] (.int .u32 (rot (vx ((e5 v x y p0 p1 p2 p3) p3) ((e5 v x y p0 p1 p2 p3) p0)) 8)) (fun _ => by kernel_rfl) (fun w M => d_turn8 _ w M.laid) ?_
  refine k_val (want_no rfl) (some 75) rfl (.pointer (some ⟨g1, p3, none⟩)) (run_ix1 67 16 56 Tryd.underlying67 inz56 _ _ rfl g1 (by kernel_rfl) .i64 (p3) (by kernel_rfl) (by omega)) ?_
  refine kl_nil ?_
  intro u13 M
  replace M : Mem ⟨w, []⟩ [⟨g1, .cells (av 16 (w32 (e5 v x y p0 p1 p2 p3))) 67⟩, ⟨g2, .cells (av 16 (w32 (fun _ => 0))) 67⟩] u13 := M
  refine pl_put1 M (want_no rfl) rfl 56 _ _ rfl 0 g1 p3 (by kernel_rfl) 16 67 (w32 (e5 v x y p0 p1 p2 p3)) rfl (.int .u32 (rot (vx ((e5 v x y p0 p1 p2 p3) p3) ((e5 v x y p0 p1 p2 p3) p0)) 8)) (w32 (upd (e5 v x y p0 p1 p2 p3) p3 (rot (vx ((e5 v x y p0 p1 p2 p3) p3) ((e5 v x y p0 p1 p2 p3) p0)) 8))) (by kernel_rfl) inz56 (by omega) rfl rfl (fun j _ => put_w32 _ _ _ j) ?_
  intro u14 M
  replace M : Mem ⟨w, []⟩ [⟨g1, .cells (av 16 (w32 (upd (e5 v x y p0 p1 p2 p3) p3 (rot (vx ((e5 v x y p0 p1 p2 p3) p3) ((e5 v x y p0 p1 p2 p3) p0)) 8)))) 67⟩, ⟨g2, .cells (av 16 (w32 (fun _ => 0))) 67⟩] u14 := M
  refine pl_nil ?_
  replace M : Mem ⟨w, []⟩ [⟨g1, .cells (av 16 (w32 (e6 v x y p0 p1 p2 p3))) 67⟩, ⟨g2, .cells (av 16 (w32 (fun _ => 0))) 67⟩] u14 := M
  refine au_then ?_
  refine wp_seq ?_
  refine rg_tail M 9 (by kernel_rfl) (by kernel_rfl) ?_
  simp only [List.take_succ_cons, List.take_zero]
  refine k_val (want_no rfl) (some 76) rfl (.int .i64 (p2 : Int)) (fun _ => by kernel_rfl) ?_
  refine k_val (want_no rfl) (some 77) rfl (.int .i64 (p2 : Int)) (fun _ => by kernel_rfl) ?_
  refine k_val (want_no rfl) (some 78) rfl (.pointer (some ⟨g1, p2, none⟩)) (run_ix1 67 16 56 Tryd.underlying67 inz56 _ _ rfl g1 (by kernel_rfl) .i64 (p2) (by kernel_rfl) (by omega)) ?_
  refine k_cell M (want_no rfl) (some 79) rfl 56 _ rfl g1 p2 (by kernel_rfl) (.int .u32 ((e6 v x y p0 p1 p2 p3) p2)) (fun _ => by kernel_rfl) (fun w M => M.cell 0 rfl (by omega) rfl) ?_
  refine k_val (want_no rfl) (some 80) rfl (.int .i64 (p3 : Int)) (fun _ => by kernel_rfl) ?_
  refine k_val (want_no rfl) (some 81) rfl (.pointer (some ⟨g1, p3, none⟩)) (run_ix1 67 16 56 Tryd.underlying67 inz56 _ _ rfl g1 (by kernel_rfl) .i64 (p3) (by kernel_rfl) (by omega)) ?_
  refine k_cell M (want_no rfl) (some 82) rfl 56 _ rfl g1 p3 (by kernel_rfl) (.int .u32 ((e6 v x y p0 p1 p2 p3) p3)) (fun _ => by kernel_rfl) (fun w M => M.cell 0 rfl (by omega) rfl) ?_
  refine k_val (want_no rfl) (some 83) rfl (.int .u32 (va ((e6 v x y p0 p1 p2 p3) p2) ((e6 v x y p0 p1 p2 p3) p3))) (fun _ => by kernel_rfl) ?_
  refine k_val (want_no rfl) (some 84) rfl (.pointer (some ⟨g1, p2, none⟩)) (run_ix1 67 16 56 Tryd.underlying67 inz56 _ _ rfl g1 (by kernel_rfl) .i64 (p2) (by kernel_rfl) (by omega)) ?_
  refine kl_nil ?_
  intro u15 M
  replace M : Mem ⟨w, []⟩ [⟨g1, .cells (av 16 (w32 (e6 v x y p0 p1 p2 p3))) 67⟩, ⟨g2, .cells (av 16 (w32 (fun _ => 0))) 67⟩] u15 := M
  refine pl_put1 M (want_no rfl) rfl 56 _ _ rfl 0 g1 p2 (by kernel_rfl) 16 67 (w32 (e6 v x y p0 p1 p2 p3)) rfl (.int .u32 (va ((e6 v x y p0 p1 p2 p3) p2) ((e6 v x y p0 p1 p2 p3) p3))) (w32 (upd (e6 v x y p0 p1 p2 p3) p2 (va ((e6 v x y p0 p1 p2 p3) p2) ((e6 v x y p0 p1 p2 p3) p3)))) (by kernel_rfl) inz56 (by omega) rfl rfl (fun j _ => put_w32 _ _ _ j) ?_
  intro u16 M
  replace M : Mem ⟨w, []⟩ [⟨g1, .cells (av 16 (w32 (upd (e6 v x y p0 p1 p2 p3) p2 (va ((e6 v x y p0 p1 p2 p3) p2) ((e6 v x y p0 p1 p2 p3) p3))))) 67⟩, ⟨g2, .cells (av 16 (w32 (fun _ => 0))) 67⟩] u16 := M
  refine pl_nil ?_
  replace M : Mem ⟨w, []⟩ [⟨g1, .cells (av 16 (w32 (e7 v x y p0 p1 p2 p3))) 67⟩, ⟨g2, .cells (av 16 (w32 (fun _ => 0))) 67⟩] u16 := M
  refine au_then ?_
  refine wp_seq ?_
  refine rg_tail M 10 (by kernel_rfl) (by kernel_rfl) ?_
  simp only [List.take_succ_cons, List.take_zero]
  refine k_val (want_no rfl) (some 85) rfl (.int .i64 (p1 : Int)) (fun _ => by kernel_rfl) ?_
  refine k_val (want_no rfl) (some 86) rfl (.int .i64 (p1 : Int)) (fun _ => by kernel_rfl) ?_
  refine k_val (want_no rfl) (some 87) rfl (.pointer (some ⟨g1, p1, none⟩)) (run_ix1 67 16 56 Tryd.underlying67 inz56 _ _ rfl g1 (by kernel_rfl) .i64 (p1) (by kernel_rfl) (by omega)) ?_
  refine k_cell M (want_no rfl) (some 88) rfl 56 _ rfl g1 p1 (by kernel_rfl) (.int .u32 ((e7 v x y p0 p1 p2 p3) p1)) (fun _ => by kernel_rfl) (fun w M => M.cell 0 rfl (by omega) rfl) ?_
  refine k_val (want_no rfl) (some 89) rfl (.int .i64 (p2 : Int)) (fun _ => by kernel_rfl) ?_
  refine k_val (want_no rfl) (some 90) rfl (.pointer (some ⟨g1, p2, none⟩)) (run_ix1 67 16 56 Tryd.underlying67 inz56 _ _ rfl g1 (by kernel_rfl) .i64 (p2) (by kernel_rfl) (by omega)) ?_
  refine k_cell M (want_no rfl) (some 91) rfl 56 _ rfl g1 p2 (by kernel_rfl) (.int .u32 ((e7 v x y p0 p1 p2 p3) p2)) (fun _ => by kernel_rfl) (fun w M => M.cell 0 rfl (by omega) rfl) ?_
  refine k_val (want_no rfl) (some 92) rfl (.int .u32 (vx ((e7 v x y p0 p1 p2 p3) p1) ((e7 v x y p0 p1 p2 p3) p2))) (fun _ => by kernel_rfl) ?_
  refine k_call M (want_no rfl) (some 93) rfl 39 #[.int .u32 (vx ((e7 v x y p0 p1 p2 p3) p1) ((e7 v x y p0 p1 p2 p3) p2)), .int .u64 7] (.int .u32 (rot (vx ((e7 v x y p0 p1 p2 p3) p1) ((e7 v x y p0 p1 p2 p3) p2)) 7)) (fun _ => by kernel_rfl) (fun w M => d_turn7 _ w M.laid) ?_
  refine k_val (want_no rfl) (some 94) rfl (.pointer (some ⟨g1, p1, none⟩)) (run_ix1 67 16 56 Tryd.underlying67 inz56 _ _ rfl g1 (by kernel_rfl) .i64 (p1) (by kernel_rfl) (by omega)) ?_
  refine kl_nil ?_
  intro u17 M
  replace M : Mem ⟨w, []⟩ [⟨g1, .cells (av 16 (w32 (e7 v x y p0 p1 p2 p3))) 67⟩, ⟨g2, .cells (av 16 (w32 (fun _ => 0))) 67⟩] u17 := M
  refine pl_put1 M (want_no rfl) rfl 56 _ _ rfl 0 g1 p1 (by kernel_rfl) 16 67 (w32 (e7 v x y p0 p1 p2 p3)) rfl (.int .u32 (rot (vx ((e7 v x y p0 p1 p2 p3) p1) ((e7 v x y p0 p1 p2 p3) p2)) 7)) (w32 (upd (e7 v x y p0 p1 p2 p3) p1 (rot (vx ((e7 v x y p0 p1 p2 p3) p1) ((e7 v x y p0 p1 p2 p3) p2)) 7))) (by kernel_rfl) inz56 (by omega) rfl rfl (fun j _ => put_w32 _ _ _ j) ?_
  intro u18 M
  replace M : Mem ⟨w, []⟩ [⟨g1, .cells (av 16 (w32 (upd (e7 v x y p0 p1 p2 p3) p1 (rot (vx ((e7 v x y p0 p1 p2 p3) p1) ((e7 v x y p0 p1 p2 p3) p2)) 7)))) 67⟩, ⟨g2, .cells (av 16 (w32 (fun _ => 0))) 67⟩] u18 := M
  refine pl_nil ?_
  replace M : Mem ⟨w, []⟩ [⟨g1, .cells (av 16 (w32 (e8 v x y p0 p1 p2 p3))) 67⟩, ⟨g2, .cells (av 16 (w32 (fun _ => 0))) 67⟩] u18 := M
  refine au_then ?_
  refine wp_seq ?_
  refine rg_lit ?_
  refine pl_load M (want_no rfl) (some 95) rfl 67 _ rfl 0 g1 0 (by kernel_rfl) 16 67 (w32 (e8 v x y p0 p1 p2 p3)) rfl 16 (w32 (e8 v x y p0 p1 p2 p3)) (fun j _ => by rw [Nat.zero_add]) (by decide) _ Tryd.underlying67 rfl inz67 ?_
  refine pl_put M (want_no rfl) rfl 67 _ _ rfl 1 g2 0 (by kernel_rfl) 16 67 (w32 (fun _ => 0)) rfl 16 (w32 (e8 v x y p0 p1 p2 p3)) (w32 (e8 v x y p0 p1 p2 p3)) (by kernel_rfl) inz67 (by decide) (fun _ _ => rfl) (fun j hj => by rw [if_pos (by omega), Nat.sub_zero]) ?_
  intro u19 M
  replace M : Mem ⟨w, []⟩ [⟨g1, .cells (av 16 (w32 (e8 v x y p0 p1 p2 p3))) 67⟩, ⟨g2, .cells (av 16 (w32 (e8 v x y p0 p1 p2 p3))) 67⟩] u19 := M
  refine pl_nil ?_
  refine au_then ?_
  refine wp_ret ?_
  refine bodyPost_ret (v := .agg (av 16 (w32 (mxF v x y p0 p1 p2 p3)))) (Eq.trans (b := .ok (.agg (av 16 (w32 (e8 v x y p0 p1 p2 p3)))) _) (results_cell_row Tryd.results33 _ _ g2 67 (av 16 (w32 (e8 v x y p0 p1 p2 p3))) (0, 0) _ (by kernel_rfl) (M.get 1 rfl) Tryd.underlying67 rfl (by rw [av_size]; exact inz67)) (by rw [e8_eq v x y p0 p1 p2 p3 d0 d1 d2 d3 d4 d5])) (by kernel_rfl) ⟨rfl, below_grown M.old⟩


end Go.Proofs.YtpfneekmbednoaaDoor
