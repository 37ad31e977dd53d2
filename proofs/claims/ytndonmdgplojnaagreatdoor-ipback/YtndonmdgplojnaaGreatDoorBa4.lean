/- Part 4 of the walks and facts behind ipBack_holds. -/
import Derived.Test.YtndonmdgplojnaaGreatDoorBa3
/- Numbers as texts, in tens and in sixteens: the walks of strconv.FormatUint. -/
namespace Go.Proofs.YtndonmdgplojnaaGreatDoor
open Go.RowKit

section
variable {P : Program} {ops : Array Oper} {rest : List Oper} {o : Oper} {a : Act} {w : World} {c : Ctx} {L : List Blk} {Q : Exit → Act → World → Prop}
/-- A call that changes one block; what it holds then is told. -/
theorem pl_callz (M : Mem c L w) (hw : Region.wanted o (yielded ops a.tmps) = true) (d : Option Tmp) (hd : o.dst = d) (f : FuncId) (args : Array Value) (v : Value) (i g : Nat) (Z : Obj) (K : Obj → Prop) (hi : L[i]? = some ⟨g, Z⟩) (hrun : ∀ w, (execOp a.eval o).run P w = .ok (.enter f args) w)
    (hc : ∀ w, Mem c L w → Calls P f args w fun e w' => e = .returned v ∧ Grw w w' [g] ∧ ∃ Z', w'.heap[g]? = some Z' ∧ K Z') (h : ∀ Z' w', K Z' → Mem c (L.set i ⟨g, Z'⟩) w' → PL P ops Q rest (a.put d v) w') : PL P ops Q (o :: rest) a w :=
  pl_callq hw d hd f args hrun ((hc w M).mono fun _ w' ⟨he, h1, Z', h2, h3⟩ => ⟨v, he, h Z' w' h3 (M.put i ⟨g, Z⟩ hi Z' h1 h2)⟩)
end
section
variable {ops : Array Oper} {rest : List Oper} {o : Oper} {a : Act} {w : World} {c : Ctx} {L : List Blk} {Q : Exit → Act → World → Prop}
/-- The text of a part of an array of bytes. -/
theorem pl_backO (M : Mem c L w) (hw : Region.wanted o (yielded ops a.tmps) = true) (d : Option Tmp) (hd : o.dst = d) (x : Operand) (ho : o.op = .convert 54 9 x) (i g off n cap N T : Nat) (F : Nat → Int) (hx : a.eval x = .slice (some ⟨g, off, none⟩) n cap) (hi : L[i]? = some ⟨g, .cells (av N (w8 F)) T⟩) (hn : off + n ≤ N) (hF : ∀ i, 0 ≤ F i ∧ F i < 256)
    (h : PL Tryz.prog ops Q rest (a.put d (.string (bs ((List.range n).map fun j => F (off + j))))) w) : PL Tryz.prog ops Q (o :: rest) a w := by
  refine pl_to hw d hd _ w ?_ h
  have R := M.get i hi
  have hl : (((List.range n).map fun j => F (off + j)).map fun n => UInt8.ofNat n.toNat).length = n := by simp
  have h2 := run_convert_bytes_back (P := Tryz.prog) w 54 9 5 ⟨g, off, none⟩ cap (((List.range n).map fun j => F (off + j)).map fun n => UInt8.ofNat n.toNat) Tryz.underlying54 Tryz.underlying5 Tryz.underlying9 (fun j hj => by
    rw [hl] at hj
    rw [add_at, cell_av R (by omega)]
    have hb := hF (off + j)
    simp [w8]
    omega)
  rw [hl] at h2
  unfold execOp
  simp only [ho, hx, Sem.run_bind, h2, Result.andThen_ok, Sem.run_pure]
  rfl
end
/-- A digit. -/
def dgt (k : Nat) : Int := bt (⟨#[48, 49, 50, 51, 52, 53, 54, 55, 56, 57, 97, 98, 99, 100, 101, 102, 103, 104, 105, 106, 107, 108, 109, 110, 111, 112, 113, 114, 115, 116, 117, 118, 119, 120, 121, 122]⟩ : ByteArray) k
/-- A number in sixteens. -/
def hxT (n : Nat) : ByteArray := if n < 16 then bs [dgt n] else if n < 256 then bs [dgt (n / 16), dgt (n % 16)] else if n < 4096 then bs [dgt (n / 16 / 16), dgt (n / 16 % 16), dgt (n % 16)] else bs [dgt (n / 16 / 16 / 16), dgt (n / 16 / 16 % 16), dgt (n / 16 % 16), dgt (n % 16)]
theorem un_15 (n : Nat) (h : n < 65536) : un (n : Int) 15 = ((n % 16 : Nat) : Int) := by
  have e : BitVec.ofInt 64 15 = BitVec.ofNat 64 15 := by decide
  have e2 : BitVec.ofInt 64 (n : Int) = BitVec.ofNat 64 n := rfl
  unfold un
  rw [e, e2, BitVec.toNat_and, BitVec.toNat_ofNat, BitVec.toNat_ofNat, Nat.mod_eq_of_lt (by omega), Nat.mod_eq_of_lt (by omega)]
  have e3 : n &&& 15 = n % 16 := Nat.and_two_pow_sub_one_eq_mod n 4
  rw [e3, IntKind.wrap_u64]
  omega
theorem sr_4 (n : Nat) : sr (n : Int) 4 = ((n / 16 : Nat) : Int) := by
  unfold sr
  rw [Int.fdiv_eq_ediv_of_nonneg _ (by decide)]
  rfl
set_option maxRecDepth 100000 in
set_option maxHeartbeats 4000000 in
set_option linter.unusedSimpArgs false in
theorem c_fu10 (u : Nat) (hu : u < 1000) (w : World) (hL : Laid w)  :
    Calls Tryz.prog 77 #[.int .u64 (u : Int), .int .i64 10] w fun r w' => r = .returned (.string (dcT (u : Int))) ∧ Below w.heap.size w w' := by
  go_enter Tryz.func77, Tryz.ntmps77
  have M := Mem.start hL
  refine wp_seq ?_
  refine rg_lit ?_
  refine pl_val (want_no rfl) (some 4) rfl (.string ⟨#[]⟩) (fun _ => by kernel_rfl) ?_
  refine pl_nil ?_
  refine au_then ?_
  refine wp_seq ?_
  refine wp_seq ?_
  refine rg_lit ?_
  refine pl_val (want_no rfl) (some 9) rfl (.int .i64 10) (fun _ => by kernel_rfl) ?_
  refine pl_val (want_no rfl) (some 10) rfl (.bool true) (fun _ => by kernel_rfl) ?_
  refine pl_nil ?_
  refine au_then ?_
  refine wp_cond_true (by kernel_rfl) ?_
  refine wp_seq ?_
  refine wp_seq ?_
  refine rg_lit ?_
  refine pl_val (want_no rfl) (some 11) rfl (.int .u64 (u : Int)) (fun _ => by kernel_rfl) ?_
  by_cases c0 : (u : Int) < 100
  · skip
    refine pl_val (want_no rfl) (some 12) rfl (.bool true) (fun w => Eq.trans (b := .ok (.value (.bool (decide ((u : Int) < 100)))) w) (by kernel_rfl) (by rw [decide_eq_true (c0)])) ?_
    refine pl_nil ?_
    refine au_then ?_
    refine wp_cond_true (by kernel_rfl) ?_
    refine wp_seq ?_
    refine rg_lit ?_
    refine pl_val (want_no rfl) (some 13) rfl (.int .u64 (u : Int)) (fun _ => by kernel_rfl) ?_
    refine pl_val (want_no rfl) (some 14) rfl (.int .i64 (u : Int)) (fun w => Eq.trans (b := .ok (.value (.int .i64 (cv .i64 (u : Int)))) w) (by kernel_rfl) (by rw [cv_i64 (by omega) (by omega)])) ?_
    refine pl_call M (want_no rfl) (some 15) rfl 96 #[.int .i64 (u : Int)] (.string (dcT (u : Int))) (fun _ => by kernel_rfl) (fun w M => c_small u (by omega) w) ?_
    intro u1 M
    refine pl_val (want_no rfl) (some 4) rfl (.string (dcT (u : Int))) (fun _ => by kernel_rfl) ?_
    refine pl_nil ?_
    refine au_then ?_
    refine wp_ret ?_
    refine au_then_ret ?_
    refine au_then_ret ?_
    exact bodyPost_ret (v := .string (dcT (u : Int))) (results_tmp1 Tryz.results77 _ _ _ (by kernel_rfl)) (by kernel_rfl) ⟨rfl, below_grown M.old⟩
  · skip
    refine pl_val (want_no rfl) (some 12) rfl (.bool false) (fun w => Eq.trans (b := .ok (.value (.bool (decide ((u : Int) < 100)))) w) (by kernel_rfl) (by rw [decide_eq_false (c0)])) ?_
    refine pl_nil ?_
    refine au_then ?_
    refine wp_cond_false (by kernel_rfl) ?_
    refine wp_skip ?_
    refine au_then ?_
    refine wp_seq ?_
    refine rg_lit ?_
    refine pl_new M (want_no rfl) (some 5) rfl (.cells (av 24 (w8 (fun _ => 0))) 119) (fun _ => by kernel_rfl) ?_
    intro g1 u1 M
    replace M : Mem ⟨w, []⟩ [⟨g1, .cells (av 24 (w8 (fun _ => 0))) 119⟩] u1 := M
    refine pl_nil ?_
    refine au_then ?_
    refine wp_seq ?_
    refine rg_lit ?_
    refine pl_val (want_no rfl) (some 16) rfl (.int .u64 (u : Int)) (fun _ => by kernel_rfl) ?_
    refine pl_call M (want_no rfl) (some 17) rfl 97 #[.int .u64 (u : Int)] (.int .i64 3) (fun _ => by kernel_rfl) (fun w M => c_numDigits u (by omega) hu w M.laid) ?_
    intro u2 M
    refine pl_val (want_no rfl) (some 6) rfl (.int .i64 3) (fun _ => by kernel_rfl) ?_
    refine pl_nil ?_
    refine au_then ?_
    refine wp_seq ?_
    refine rg_lit ?_
    refine pl_val (want_no rfl) (some 18) rfl (.int .i64 3) (fun _ => by kernel_rfl) ?_
    refine pl_val (want_no rfl) (some 19) rfl (.slice (some ⟨g1, 0, none⟩) 3 24) (run_slAH 119 24 5 Tryz.underlying119 inz5 _ _ rfl g1 0 (by kernel_rfl) .i64 3 (by kernel_rfl) (by decide) (by decide)) ?_
    refine pl_val (want_no rfl) (some 20) rfl (.int .u64 (u : Int)) (fun _ => by kernel_rfl) ?_
    refine pl_callz M (want_no rfl) (some 21) rfl 98 #[.slice (some ⟨g1, 0, none⟩) 3 24, .int .u64 (u : Int)] (.tuple #[]) 0 g1 (.cells (av 24 (w8 (fun _ => 0))) 119) (fun Z => SB Z 3 (vs8 [48 + (u : Int) / 100, 48 + (u : Int) / 10 % 10, 48 + (u : Int) % 10])) rfl (fun _ => by kernel_rfl) (fun w M => c_base10 g1 u (by omega) (by omega) w (M.get 0 rfl)) ?_
    intro Z9 u3 hZ9 M
    replace M : Mem ⟨w, []⟩ [⟨g1, Z9⟩] u3 := M
    refine pl_nil ?_
    refine au_then ?_
    refine wp_seq ?_
    refine rg_lit ?_
    refine pl_val (want_no rfl) (some 22) rfl (.int .i64 3) (fun _ => by kernel_rfl) ?_
    refine pl_val (want_no rfl) (some 23) rfl (.slice (some ⟨g1, 0, none⟩) 3 24) (run_slAH 119 24 5 Tryz.underlying119 inz5 _ _ rfl g1 0 (by kernel_rfl) .i64 3 (by kernel_rfl) (by decide) (by decide)) ?_
    refine pl_back M (want_no rfl) (some 24) rfl _ rfl 0 g1 3 24 (by kernel_rfl) _ rfl [48 + (u : Int) / 100, 48 + (u : Int) / 10 % 10, 48 + (u : Int) % 10] 3 hZ9 rfl (by intro x hx; simp only [List.mem_cons, List.mem_nil_iff, or_false] at hx; rcases hx with rfl | rfl | rfl <;> omega) ?_
    refine pl_val (want_no rfl) (some 4) rfl (.string (bs [48 + (u : Int) / 100, 48 + (u : Int) / 10 % 10, 48 + (u : Int) % 10])) (fun _ => by kernel_rfl) ?_
    refine pl_nil ?_
    refine au_then ?_
    refine wp_ret ?_
    refine au_then_ret ?_
    have e0 : (dcT (u : Int)) = (bs [48 + (u : Int) / 100, 48 + (u : Int) / 10 % 10, 48 + (u : Int) % 10]) := by unfold dcT; rw [if_neg (by omega), if_neg (by omega)]
    exact bodyPost_ret (v := .string (bs [48 + (u : Int) / 100, 48 + (u : Int) / 10 % 10, 48 + (u : Int) % 10])) (results_tmp1 Tryz.results77 _ _ _ (by kernel_rfl)) (by kernel_rfl) ⟨by rw [e0], below_grown M.old⟩

set_option maxRecDepth 100000 in
set_option maxHeartbeats 4000000 in
set_option linter.unusedSimpArgs false in
theorem c_fmt10 (u : Nat) (hu : u < 1000) (w : World) (hL : Laid w)  :
    Calls Tryz.prog 53 #[.int .u64 (u : Int), .int .i64 10] w fun r w' => r = .returned (.string (dcT (u : Int))) ∧ Below w.heap.size w w' := by
  go_enter Tryz.func53, Tryz.ntmps53
  have M := Mem.start hL
  refine wp_seq ?_
  refine rg_lit ?_
  refine pl_val (want_no rfl) (some 4) rfl (.string ⟨#[]⟩) (fun _ => by kernel_rfl) ?_
  refine pl_nil ?_
  refine au_then ?_
  refine wp_seq ?_
  refine rg_lit ?_
  refine pl_val (want_no rfl) (some 5) rfl (.int .u64 (u : Int)) (fun _ => by kernel_rfl) ?_
  refine pl_val (want_no rfl) (some 6) rfl (.int .i64 10) (fun _ => by kernel_rfl) ?_
  refine pl_call M (want_no rfl) (some 7) rfl 77 #[.int .u64 (u : Int), .int .i64 10] (.string (dcT (u : Int))) (fun _ => by kernel_rfl) (fun w M => c_fu10 u hu w M.laid) ?_
  intro u1 M
  refine pl_val (want_no rfl) (some 4) rfl (.string (dcT (u : Int))) (fun _ => by kernel_rfl) ?_
  refine pl_nil ?_
  refine au_then ?_
  refine wp_ret ?_
  exact bodyPost_ret (v := .string (dcT (u : Int))) (results_tmp1 Tryz.results53 _ _ _ (by kernel_rfl)) (by kernel_rfl) ⟨rfl, below_grown M.old⟩

set_option maxRecDepth 100000 in
set_option maxHeartbeats 4000000 in
set_option linter.unusedSimpArgs false in
theorem c_pow2  (w : World) (hL : Laid w)  :
    Calls Tryz.prog 124 #[.int .i64 16] w fun r w' => r = .returned (.bool true) ∧ Below w.heap.size w w' := by
  go_enter Tryz.func124, Tryz.ntmps124
  have M := Mem.start hL
  refine wp_seq ?_
  refine rg_lit ?_
  refine pl_val (want_no rfl) (some 2) rfl (.bool false) (fun _ => by kernel_rfl) ?_
  refine pl_nil ?_
  refine au_then ?_
  refine wp_seq ?_
  refine rg_lit ?_
  refine pl_val (want_no rfl) (some 3) rfl (.int .i64 16) (fun _ => by kernel_rfl) ?_
  refine pl_val (want_no rfl) (some 4) rfl (.int .i64 16) (fun _ => by kernel_rfl) ?_
  refine pl_val (want_no rfl) (some 5) rfl (.int .i64 15) (fun _ => by kernel_rfl) ?_
  refine pl_val (want_no rfl) (some 6) rfl (.int .i64 0) (fun _ => by kernel_rfl) ?_
  refine pl_val (want_no rfl) (some 7) rfl (.bool true) (fun _ => by kernel_rfl) ?_
  refine pl_val (want_no rfl) (some 2) rfl (.bool true) (fun _ => by kernel_rfl) ?_
  refine pl_nil ?_
  refine au_then ?_
  refine wp_ret ?_
  exact bodyPost_ret (v := .bool true) (results_tmp1 Tryz.results124 _ _ _ (by kernel_rfl)) (by kernel_rfl) ⟨rfl, below_grown M.old⟩

set_option maxRecDepth 100000 in
set_option maxHeartbeats 4000000 in
set_option linter.unusedSimpArgs false in
theorem c_tz64  (w : World) (hL : Laid w)  :
    Calls Tryz.prog 137 #[.int .u64 16] w fun r w' => r = .returned (.int .i64 4) ∧ Below w.heap.size w w' := by
  go_enter Tryz.func137, Tryz.ntmps137
  have M := Mem.start hL
  refine wp_seq ?_
  refine rg_lit ?_
  refine pl_val (want_no rfl) (some 2) rfl (.int .i64 0) (fun _ => by kernel_rfl) ?_
  refine pl_nil ?_
  refine au_then ?_
  refine wp_seq ?_
  refine wp_seq ?_
  refine rg_lit ?_
  refine pl_val (want_no rfl) (some 3) rfl (.int .u64 16) (fun _ => by kernel_rfl) ?_
  refine pl_val (want_no rfl) (some 4) rfl (.bool false) (fun _ => by kernel_rfl) ?_
  refine pl_nil ?_
  refine au_then ?_
  refine wp_cond_false (by kernel_rfl) ?_
  refine wp_skip ?_
  refine au_then ?_
  refine wp_seq ?_
  refine rg_lit ?_
  refine pl_val (want_no rfl) (some 5) rfl (.int .u64 16) (fun _ => by kernel_rfl) ?_
  refine pl_val (want_no rfl) (some 6) rfl (.int .u64 16) (fun _ => by kernel_rfl) ?_
  refine pl_val (want_no rfl) (some 7) rfl (.int .u64 18446744073709551600) (fun _ => by kernel_rfl) ?_
  refine pl_val (want_no rfl) (some 8) rfl (.int .u64 16) (fun _ => by kernel_rfl) ?_
  refine pl_val (want_no rfl) (some 9) rfl (.int .u64 4573923408821661840) (fun _ => by kernel_rfl) ?_
  refine pl_val (want_no rfl) (some 10) rfl (.int .u64 15) (fun _ => by kernel_rfl) ?_
  refine pl_val (want_no rfl) (some 11) rfl (.pointer (some ⟨5, 15, none⟩)) (fun _ => by kernel_rfl) ?_
  refine pl_cell M (want_no rfl) (some 12) rfl 5 _ rfl 5 15 (by kernel_rfl) (.int .u8 4) (fun _ => by kernel_rfl) (fun w M => M.laid.db) ?_
  refine pl_val (want_no rfl) (some 13) rfl (.int .i64 4) (fun _ => by kernel_rfl) ?_
  refine pl_val (want_no rfl) (some 2) rfl (.int .i64 4) (fun _ => by kernel_rfl) ?_
  refine pl_nil ?_
  refine au_then ?_
  refine wp_ret ?_
  exact bodyPost_ret (v := .int .i64 4) (results_tmp1 Tryz.results137 _ _ _ (by kernel_rfl)) (by kernel_rfl) ⟨rfl, below_grown M.old⟩

set_option maxRecDepth 100000 in
set_option maxHeartbeats 4000000 in
set_option linter.unusedSimpArgs false in
theorem c_tz  (w : World) (hL : Laid w)  :
    Calls Tryz.prog 125 #[.int .u64 16] w fun r w' => r = .returned (.int .i64 4) ∧ Below w.heap.size w w' := by
  go_enter Tryz.func125, Tryz.ntmps125
  have M := Mem.start hL
  refine wp_seq ?_
  refine rg_lit ?_
  refine pl_val (want_no rfl) (some 2) rfl (.int .i64 0) (fun _ => by kernel_rfl) ?_
  refine pl_nil ?_
  refine au_then ?_
  refine wp_seq ?_
  refine wp_cond_false (by kernel_rfl) ?_
  refine wp_skip ?_
  refine au_then ?_
  refine wp_seq ?_
  refine rg_lit ?_
  refine pl_val (want_no rfl) (some 6) rfl (.int .u64 16) (fun _ => by kernel_rfl) ?_
  refine pl_call M (want_no rfl) (some 7) rfl 137 #[.int .u64 16] (.int .i64 4) (fun _ => by kernel_rfl) (fun w M => c_tz64 w M.laid) ?_
  intro u1 M
  refine pl_val (want_no rfl) (some 2) rfl (.int .i64 4) (fun _ => by kernel_rfl) ?_
  refine pl_nil ?_
  refine au_then ?_
  refine wp_ret ?_
  exact bodyPost_ret (v := .int .i64 4) (results_tmp1 Tryz.results125 _ _ _ (by kernel_rfl)) (by kernel_rfl) ⟨rfl, below_grown M.old⟩

set_option maxRecDepth 100000 in
set_option maxHeartbeats 4000000 in
set_option linter.unusedSimpArgs false in
theorem c_fbits (n : Nat) (hn : n < 65536) (w : World) (hL : Laid w)  :
    Calls Tryz.prog 99 #[.slice none 0 0, .int .u64 ((n : Nat) : Int), .int .i64 16, .bool false, .bool false] w fun r w' => r = .returned (.tuple #[.slice none 0 0, .string (hxT n)]) ∧ Below w.heap.size w w' := by
  go_enter Tryz.func99, Tryz.ntmps99
  have M := Mem.start hL
  refine wp_seq ?_
  refine rg_lit ?_
  refine pl_val (want_no rfl) (some 10) rfl (.slice none 0 0) (fun _ => by kernel_rfl) ?_
  refine pl_val (want_no rfl) (some 11) rfl (.string ⟨#[]⟩) (fun _ => by kernel_rfl) ?_
  refine pl_nil ?_
  refine au_then ?_
  refine wp_seq ?_
  refine wp_seq ?_
  refine rg_lit ?_
  refine pl_val (want_no rfl) (some 19) rfl (.int .i64 16) (fun _ => by kernel_rfl) ?_
  refine pl_val (want_no rfl) (some 20) rfl (.bool false) (fun _ => by kernel_rfl) ?_
  refine pl_val (want_no rfl) (some 21) rfl (.bool false) (fun _ => by kernel_rfl) ?_
  refine pl_val (want_on 2 false rfl 21 rfl (by kernel_rfl)) (some 22) rfl (.int .i64 16) (fun _ => by kernel_rfl) ?_
  refine pl_val (want_on 2 false rfl 21 rfl (by kernel_rfl)) (some 23) rfl (.bool false) (fun _ => by kernel_rfl) ?_
  refine pl_val (want_no rfl) (some 24) rfl (.bool false) (fun _ => by kernel_rfl) ?_
  refine pl_val (want_no rfl) (some 25) rfl (.bool false) (fun _ => by kernel_rfl) ?_
  refine pl_val (want_on 6 false rfl 25 rfl (by kernel_rfl)) (some 26) rfl (.int .i64 16) (fun _ => by kernel_rfl) ?_
  refine pl_val (want_on 6 false rfl 25 rfl (by kernel_rfl)) (some 27) rfl (.bool false) (fun _ => by kernel_rfl) ?_
  refine pl_val (want_no rfl) (some 28) rfl (.bool false) (fun _ => by kernel_rfl) ?_
  refine pl_nil ?_
  refine au_then ?_
  refine wp_cond_false (by kernel_rfl) ?_
  refine wp_skip ?_
  refine au_then ?_
  refine wp_seq ?_
  refine rg_lit ?_
  refine pl_new M (want_no rfl) (some 12) rfl (.cells (av 65 (w8 (fun _ => 0))) 145) (fun _ => by kernel_rfl) ?_
  intro g1 u1 M
  replace M : Mem ⟨w, []⟩ [⟨g1, .cells (av 65 (w8 (fun _ => 0))) 145⟩] u1 := M
  refine pl_nil ?_
  refine au_then ?_
  refine wp_seq ?_
  refine rg_lit ?_
  refine pl_val (want_no rfl) (some 13) rfl (.int .i64 65) (fun _ => by kernel_rfl) ?_
  refine pl_nil ?_
  refine au_then ?_
  refine wp_seq ?_
  refine wp_seq ?_
  refine rg_lit ?_
  refine pl_val (want_no rfl) (some 30) rfl (.bool false) (fun _ => by kernel_rfl) ?_
  refine pl_nil ?_
  refine au_then ?_
  refine wp_cond_false (by kernel_rfl) ?_
  refine wp_skip ?_
  refine au_then ?_
  refine wp_seq ?_
  refine wp_seq ?_
  refine rg_lit ?_
  refine pl_val (want_no rfl) (some 33) rfl (.int .i64 16) (fun _ => by kernel_rfl) ?_
  refine pl_call M (want_no rfl) (some 34) rfl 124 #[.int .i64 16] (.bool true) (fun _ => by kernel_rfl) (fun w M => c_pow2 w M.laid) ?_
  intro u2 M
  refine pl_nil ?_
  refine au_then ?_
  refine wp_cond_true (by kernel_rfl) ?_
  refine wp_seq ?_
  refine rg_lit ?_
  refine pl_val (want_no rfl) (some 35) rfl (.int .i64 16) (fun _ => by kernel_rfl) ?_
  refine pl_val (want_no rfl) (some 36) rfl (.int .u64 16) (fun _ => by kernel_rfl) ?_
  refine pl_call M (want_no rfl) (some 37) rfl 125 #[.int .u64 16] (.int .i64 4) (fun _ => by kernel_rfl) (fun w M => c_tz w M.laid) ?_
  intro u3 M
  refine pl_val (want_no rfl) (some 38) rfl (.int .u64 4) (fun _ => by kernel_rfl) ?_
  refine pl_val (want_no rfl) (some 14) rfl (.int .u64 4) (fun _ => by kernel_rfl) ?_
  refine pl_nil ?_
  refine au_then ?_
  refine wp_seq ?_
  refine rg_lit ?_
  refine pl_val (want_no rfl) (some 39) rfl (.int .i64 16) (fun _ => by kernel_rfl) ?_
  refine pl_val (want_no rfl) (some 40) rfl (.int .u64 16) (fun _ => by kernel_rfl) ?_
  refine pl_val (want_no rfl) (some 15) rfl (.int .u64 16) (fun _ => by kernel_rfl) ?_
  refine pl_nil ?_
  refine au_then ?_
  refine wp_seq ?_
  refine rg_lit ?_
  refine pl_val (want_no rfl) (some 41) rfl (.int .i64 16) (fun _ => by kernel_rfl) ?_
  refine pl_val (want_no rfl) (some 42) rfl (.int .u64 16) (fun _ => by kernel_rfl) ?_
  refine pl_val (want_no rfl) (some 43) rfl (.int .u64 15) (fun _ => by kernel_rfl) ?_
  refine pl_val (want_no rfl) (some 16) rfl (.int .u64 15) (fun _ => by kernel_rfl) ?_
  refine pl_nil ?_
  refine au_then ?_
  refine wp_seq ?_
  refine wp_block ?_
  refine wp_loop_rounds 4 ?_
  refine rounds_go ?_
  refine wp_seq ?_
  refine wp_seq ?_
  refine rg_lit ?_
  refine pl_val (want_no rfl) (some 44) rfl (.int .u64 ((n : Nat) : Int)) (fun _ => by kernel_rfl) ?_
  refine pl_val (want_no rfl) (some 45) rfl (.int .u64 16) (fun _ => by kernel_rfl) ?_
  by_cases c0 : n < 16
  · skip
    refine pl_val (want_no rfl) (some 46) rfl (.bool false) (fun w => Eq.trans (b := .ok (.value (.bool (decide ((16 : Int) ≤ ((n : Nat) : Int))))) w) (by kernel_rfl) (by rw [decide_eq_false (by omega)])) ?_
    refine pl_nil ?_
    refine au_then ?_
    refine wp_cond_false (by kernel_rfl) ?_
    refine wp_exit ?_
    refine au_then_exit ?_
    refine au_then_exit ?_
    refine au_block_exit ?_
    refine au_then ?_
    refine wp_seq ?_
    refine rg_lit ?_
    refine pl_val (want_no rfl) (some 58) rfl (.int .i64 65) (fun _ => by kernel_rfl) ?_
    refine pl_val (want_no rfl) (some 59) rfl (.int .i64 64) (fun _ => by kernel_rfl) ?_
    refine pl_val (want_no rfl) (some 13) rfl (.int .i64 64) (fun _ => by kernel_rfl) ?_
    refine pl_nil ?_
    refine au_then ?_
    refine rg_lit ?_
    refine pl_val (want_no rfl) (some 60) rfl (.int .i64 64) (fun _ => by kernel_rfl) ?_
    refine pl_val (want_no rfl) (some 61) rfl (.int .u64 ((n : Nat) : Int)) (fun _ => by kernel_rfl) ?_
    refine pl_val (want_no rfl) (some 62) rfl (.int .u8 (dgt n)) (run_ixS 9 Tryz.underlying9 _ _ rfl ⟨#[48, 49, 50, 51, 52, 53, 54, 55, 56, 57, 97, 98, 99, 100, 101, 102, 103, 104, 105, 106, 107, 108, 109, 110, 111, 112, 113, 114, 115, 116, 117, 118, 119, 120, 121, 122]⟩ (by kernel_rfl) .u64 n (by kernel_rfl) (show n < 36 by omega)) ?_
    refine pl_val (want_no rfl) (some 63) rfl (.pointer (some ⟨g1, 64, none⟩)) (fun _ => by kernel_rfl) ?_
    refine pl_put1 M (want_no rfl) rfl 5 _ _ rfl 0 g1 64 (by kernel_rfl) 65 145 (w8 (fun _ => 0)) rfl (.int .u8 (dgt n)) (w8 (upd (fun _ => 0) 64 (dgt n))) (by kernel_rfl) inz5 (by decide) rfl rfl (fun j _ => put_w8 _ _ _ j) ?_
    intro u4 M
    replace M : Mem ⟨w, []⟩ [⟨g1, .cells (av 65 (w8 (upd (fun _ => 0) 64 (dgt n)))) 145⟩] u4 := M
    refine pl_nil ?_
    refine au_then ?_
    refine wp_seq ?_
    refine wp_seq ?_
    refine rg_lit ?_
    refine pl_val (want_no rfl) (some 89) rfl (.bool false) (fun _ => by kernel_rfl) ?_
    refine pl_nil ?_
    refine au_then ?_
    refine wp_cond_false (by kernel_rfl) ?_
    refine wp_skip ?_
    refine au_then ?_
    refine wp_seq ?_
    refine wp_seq ?_
    refine rg_lit ?_
    refine pl_val (want_no rfl) (some 94) rfl (.bool false) (fun _ => by kernel_rfl) ?_
    refine pl_nil ?_
    refine au_then ?_
    refine wp_cond_false (by kernel_rfl) ?_
    refine wp_skip ?_
    refine au_then ?_
    refine wp_seq ?_
    refine rg_lit ?_
    refine pl_val (want_no rfl) (some 99) rfl (.int .i64 64) (fun _ => by kernel_rfl) ?_
    refine pl_val (want_no rfl) (some 100) rfl (.slice (some ⟨g1, 64, none⟩) 1 1) (fun _ => by kernel_rfl) ?_
    refine pl_backO M (want_no rfl) (some 101) rfl _ rfl 0 g1 64 1 1 65 145 (upd (fun _ => 0) 64 (dgt n)) (by kernel_rfl) rfl (by decide) (NB.z.u _ (bt_nn _ _)) ?_
    refine pl_val (want_no rfl) (some 11) rfl (.string (bs ((List.range 1).map fun j => (upd (fun _ => 0) 64 (dgt n)) (64 + j)))) (fun _ => by kernel_rfl) ?_
    refine pl_nil ?_
    refine au_then ?_
    refine wp_ret ?_
    have e0 : (hxT n) = (bs ((List.range 1).map fun j => (upd (fun _ => 0) 64 (dgt n)) (64 + j))) := by unfold hxT; rw [if_pos (by omega)]; rfl
    exact bodyPost_ret (v := .tuple #[.slice none 0 0, .string (bs ((List.range 1).map fun j => (upd (fun _ => 0) 64 (dgt n)) (64 + j)))]) (results_tmp2 Tryz.results99 _ _ _ _ (by kernel_rfl) (by kernel_rfl)) (by kernel_rfl) ⟨by rw [e0], below_grown M.old⟩
  · skip
    refine pl_val (want_no rfl) (some 46) rfl (.bool true) (fun w => Eq.trans (b := .ok (.value (.bool (decide ((16 : Int) ≤ ((n : Nat) : Int))))) w) (by kernel_rfl) (by rw [decide_eq_true (by omega)])) ?_
    refine pl_nil ?_
    refine au_then ?_
    refine wp_cond_true (by kernel_rfl) ?_
    refine wp_skip ?_
    refine au_then ?_
    refine wp_block ?_
    refine wp_seq ?_
    refine rg_lit ?_
    refine pl_val (want_no rfl) (some 47) rfl (.int .i64 65) (fun _ => by kernel_rfl) ?_
    refine pl_val (want_no rfl) (some 48) rfl (.int .i64 64) (fun _ => by kernel_rfl) ?_
    refine pl_val (want_no rfl) (some 13) rfl (.int .i64 64) (fun _ => by kernel_rfl) ?_
    refine pl_nil ?_
    refine au_then ?_
    refine wp_seq ?_
    refine rg_lit ?_
    refine pl_val (want_no rfl) (some 49) rfl (.int .i64 64) (fun _ => by kernel_rfl) ?_
    refine pl_val (want_no rfl) (some 50) rfl (.int .u64 ((n : Nat) : Int)) (fun _ => by kernel_rfl) ?_
    refine pl_val (want_no rfl) (some 51) rfl (.int .u64 15) (fun _ => by kernel_rfl) ?_
    refine pl_val (want_no rfl) (some 52) rfl (.int .u64 ((n % 16 : Nat) : Int)) (fun w => Eq.trans (b := .ok (.value (.int .u64 (un ((n : Nat) : Int) 15))) w) (by kernel_rfl) (by rw [un_15 _ (by omega)])) ?_
    refine pl_val (want_no rfl) (some 53) rfl (.int .u8 (dgt (n % 16))) (run_ixS 9 Tryz.underlying9 _ _ rfl ⟨#[48, 49, 50, 51, 52, 53, 54, 55, 56, 57, 97, 98, 99, 100, 101, 102, 103, 104, 105, 106, 107, 108, 109, 110, 111, 112, 113, 114, 115, 116, 117, 118, 119, 120, 121, 122]⟩ (by kernel_rfl) .u64 (n % 16) (by kernel_rfl) (show (n % 16) < 36 by omega)) ?_
    refine pl_val (want_no rfl) (some 54) rfl (.pointer (some ⟨g1, 64, none⟩)) (fun _ => by kernel_rfl) ?_
    refine pl_put1 M (want_no rfl) rfl 5 _ _ rfl 0 g1 64 (by kernel_rfl) 65 145 (w8 (fun _ => 0)) rfl (.int .u8 (dgt (n % 16))) (w8 (upd (fun _ => 0) 64 (dgt (n % 16)))) (by kernel_rfl) inz5 (by decide) rfl rfl (fun j _ => put_w8 _ _ _ j) ?_
    intro u4 M
    replace M : Mem ⟨w, []⟩ [⟨g1, .cells (av 65 (w8 (upd (fun _ => 0) 64 (dgt (n % 16))))) 145⟩] u4 := M
    refine pl_nil ?_
    refine au_then ?_
    refine rg_lit ?_
    refine pl_val (want_no rfl) (some 55) rfl (.int .u64 ((n : Nat) : Int)) (fun _ => by kernel_rfl) ?_
    refine pl_val (want_no rfl) (some 56) rfl (.int .u64 4) (fun _ => by kernel_rfl) ?_
    refine pl_val (want_no rfl) (some 57) rfl (.int .u64 ((n / 16 : Nat) : Int)) (fun w => Eq.trans (b := .ok (.value (.int .u64 (sr ((n : Nat) : Int) 4))) w) (by kernel_rfl) (by rw [sr_4])) ?_
    refine pl_val (want_no rfl) (some 1) rfl (.int .u64 ((n / 16 : Nat) : Int)) (fun _ => by kernel_rfl) ?_
    refine pl_nil ?_
    refine au_block ?_
    refine au_then ?_
    refine rounds_go ?_
    refine wp_seq ?_
    refine wp_seq ?_
    refine rg_lit ?_
    refine pl_val (want_no rfl) (some 44) rfl (.int .u64 ((n / 16 : Nat) : Int)) (fun _ => by kernel_rfl) ?_
    refine pl_val (want_no rfl) (some 45) rfl (.int .u64 16) (fun _ => by kernel_rfl) ?_
    by_cases c1 : (n / 16) < 16
    · skip
      refine pl_val (want_no rfl) (some 46) rfl (.bool false) (fun w => Eq.trans (b := .ok (.value (.bool (decide ((16 : Int) ≤ (((n / 16) : Nat) : Int))))) w) (by kernel_rfl) (by rw [decide_eq_false (by omega)])) ?_
      refine pl_nil ?_
      refine au_then ?_
      refine wp_cond_false (by kernel_rfl) ?_
      refine wp_exit ?_
      refine au_then_exit ?_
      refine au_then_exit ?_
      refine au_block_exit ?_
      refine au_then ?_
      refine wp_seq ?_
      refine rg_lit ?_
      refine pl_val (want_no rfl) (some 58) rfl (.int .i64 64) (fun _ => by kernel_rfl) ?_
      refine pl_val (want_no rfl) (some 59) rfl (.int .i64 63) (fun _ => by kernel_rfl) ?_
      refine pl_val (want_no rfl) (some 13) rfl (.int .i64 63) (fun _ => by kernel_rfl) ?_
      refine pl_nil ?_
      refine au_then ?_
      refine rg_lit ?_
      refine pl_val (want_no rfl) (some 60) rfl (.int .i64 63) (fun _ => by kernel_rfl) ?_
      refine pl_val (want_no rfl) (some 61) rfl (.int .u64 ((n / 16 : Nat) : Int)) (fun _ => by kernel_rfl) ?_
      refine pl_val (want_no rfl) (some 62) rfl (.int .u8 (dgt (n / 16))) (run_ixS 9 Tryz.underlying9 _ _ rfl ⟨#[48, 49, 50, 51, 52, 53, 54, 55, 56, 57, 97, 98, 99, 100, 101, 102, 103, 104, 105, 106, 107, 108, 109, 110, 111, 112, 113, 114, 115, 116, 117, 118, 119, 120, 121, 122]⟩ (by kernel_rfl) .u64 (n / 16) (by kernel_rfl) (show (n / 16) < 36 by omega)) ?_
      refine pl_val (want_no rfl) (some 63) rfl (.pointer (some ⟨g1, 63, none⟩)) (fun _ => by kernel_rfl) ?_
      refine pl_put1 M (want_no rfl) rfl 5 _ _ rfl 0 g1 63 (by kernel_rfl) 65 145 (w8 (upd (fun _ => 0) 64 (dgt (n % 16)))) rfl (.int .u8 (dgt (n / 16))) (w8 (upd (upd (fun _ => 0) 64 (dgt (n % 16))) 63 (dgt (n / 16)))) (by kernel_rfl) inz5 (by decide) rfl rfl (fun j _ => put_w8 _ _ _ j) ?_
      intro u5 M
      replace M : Mem ⟨w, []⟩ [⟨g1, .cells (av 65 (w8 (upd (upd (fun _ => 0) 64 (dgt (n % 16))) 63 (dgt (n / 16))))) 145⟩] u5 := M
      refine pl_nil ?_
      refine au_then ?_
      refine wp_seq ?_
      refine wp_seq ?_
      refine rg_lit ?_
      refine pl_val (want_no rfl) (some 89) rfl (.bool false) (fun _ => by kernel_rfl) ?_
      refine pl_nil ?_
      refine au_then ?_
      refine wp_cond_false (by kernel_rfl) ?_
      refine wp_skip ?_
      refine au_then ?_
      refine wp_seq ?_
      refine wp_seq ?_
      refine rg_lit ?_
      refine pl_val (want_no rfl) (some 94) rfl (.bool false) (fun _ => by kernel_rfl) ?_
      refine pl_nil ?_
      refine au_then ?_
      refine wp_cond_false (by kernel_rfl) ?_
      refine wp_skip ?_
      refine au_then ?_
      refine wp_seq ?_
      refine rg_lit ?_
      refine pl_val (want_no rfl) (some 99) rfl (.int .i64 63) (fun _ => by kernel_rfl) ?_
      refine pl_val (want_no rfl) (some 100) rfl (.slice (some ⟨g1, 63, none⟩) 2 2) (fun _ => by kernel_rfl) ?_
      refine pl_backO M (want_no rfl) (some 101) rfl _ rfl 0 g1 63 2 2 65 145 (upd (upd (fun _ => 0) 64 (dgt (n % 16))) 63 (dgt (n / 16))) (by kernel_rfl) rfl (by decide) ((NB.z.u _ (bt_nn _ _)).u _ (bt_nn _ _)) ?_
      refine pl_val (want_no rfl) (some 11) rfl (.string (bs ((List.range 2).map fun j => (upd (upd (fun _ => 0) 64 (dgt (n % 16))) 63 (dgt (n / 16))) (63 + j)))) (fun _ => by kernel_rfl) ?_
      refine pl_nil ?_
      refine au_then ?_
      refine wp_ret ?_
      have e0 : (hxT n) = (bs ((List.range 2).map fun j => (upd (upd (fun _ => 0) 64 (dgt (n % 16))) 63 (dgt (n / 16))) (63 + j))) := by unfold hxT; rw [if_neg (by omega), if_pos (by omega)]; rfl
      exact bodyPost_ret (v := .tuple #[.slice none 0 0, .string (bs ((List.range 2).map fun j => (upd (upd (fun _ => 0) 64 (dgt (n % 16))) 63 (dgt (n / 16))) (63 + j)))]) (results_tmp2 Tryz.results99 _ _ _ _ (by kernel_rfl) (by kernel_rfl)) (by kernel_rfl) ⟨by rw [e0], below_grown M.old⟩
    · skip
      refine pl_val (want_no rfl) (some 46) rfl (.bool true) (fun w => Eq.trans (b := .ok (.value (.bool (decide ((16 : Int) ≤ (((n / 16) : Nat) : Int))))) w) (by kernel_rfl) (by rw [decide_eq_true (by omega)])) ?_
      refine pl_nil ?_
      refine au_then ?_
      refine wp_cond_true (by kernel_rfl) ?_
      refine wp_skip ?_
      refine au_then ?_
      refine wp_block ?_
      refine wp_seq ?_
      refine rg_lit ?_
      refine pl_val (want_no rfl) (some 47) rfl (.int .i64 64) (fun _ => by kernel_rfl) ?_
      refine pl_val (want_no rfl) (some 48) rfl (.int .i64 63) (fun _ => by kernel_rfl) ?_
      refine pl_val (want_no rfl) (some 13) rfl (.int .i64 63) (fun _ => by kernel_rfl) ?_
      refine pl_nil ?_
      refine au_then ?_
      refine wp_seq ?_
      refine rg_lit ?_
      refine pl_val (want_no rfl) (some 49) rfl (.int .i64 63) (fun _ => by kernel_rfl) ?_
      refine pl_val (want_no rfl) (some 50) rfl (.int .u64 ((n / 16 : Nat) : Int)) (fun _ => by kernel_rfl) ?_
      refine pl_val (want_no rfl) (some 51) rfl (.int .u64 15) (fun _ => by kernel_rfl) ?_
      refine pl_val (want_no rfl) (some 52) rfl (.int .u64 (((n / 16) % 16 : Nat) : Int)) (fun w => Eq.trans (b := .ok (.value (.int .u64 (un (((n / 16) : Nat) : Int) 15))) w) (by kernel_rfl) (by rw [un_15 _ (by omega)])) ?_
      refine pl_val (want_no rfl) (some 53) rfl (.int .u8 (dgt ((n / 16) % 16))) (run_ixS 9 Tryz.underlying9 _ _ rfl ⟨#[48, 49, 50, 51, 52, 53, 54, 55, 56, 57, 97, 98, 99, 100, 101, 102, 103, 104, 105, 106, 107, 108, 109, 110, 111, 112, 113, 114, 115, 116, 117, 118, 119, 120, 121, 122]⟩ (by kernel_rfl) .u64 ((n / 16) % 16) (by kernel_rfl) (show ((n / 16) % 16) < 36 by omega)) ?_
      refine pl_val (want_no rfl) (some 54) rfl (.pointer (some ⟨g1, 63, none⟩)) (fun _ => by kernel_rfl) ?_
      refine pl_put1 M (want_no rfl) rfl 5 _ _ rfl 0 g1 63 (by kernel_rfl) 65 145 (w8 (upd (fun _ => 0) 64 (dgt (n % 16)))) rfl (.int .u8 (dgt ((n / 16) % 16))) (w8 (upd (upd (fun _ => 0) 64 (dgt (n % 16))) 63 (dgt ((n / 16) % 16)))) (by kernel_rfl) inz5 (by decide) rfl rfl (fun j _ => put_w8 _ _ _ j) ?_
      intro u5 M
      replace M : Mem ⟨w, []⟩ [⟨g1, .cells (av 65 (w8 (upd (upd (fun _ => 0) 64 (dgt (n % 16))) 63 (dgt ((n / 16) % 16))))) 145⟩] u5 := M
      refine pl_nil ?_
      refine au_then ?_
      refine rg_lit ?_
      refine pl_val (want_no rfl) (some 55) rfl (.int .u64 ((n / 16 : Nat) : Int)) (fun _ => by kernel_rfl) ?_
      refine pl_val (want_no rfl) (some 56) rfl (.int .u64 4) (fun _ => by kernel_rfl) ?_
      refine pl_val (want_no rfl) (some 57) rfl (.int .u64 (((n / 16) / 16 : Nat) : Int)) (fun w => Eq.trans (b := .ok (.value (.int .u64 (sr (((n / 16) : Nat) : Int) 4))) w) (by kernel_rfl) (by rw [sr_4])) ?_
      refine pl_val (want_no rfl) (some 1) rfl (.int .u64 (((n / 16) / 16 : Nat) : Int)) (fun _ => by kernel_rfl) ?_
      refine pl_nil ?_
      refine au_block ?_
      refine au_then ?_
      refine rounds_go ?_
      refine wp_seq ?_
      refine wp_seq ?_
      refine rg_lit ?_
      refine pl_val (want_no rfl) (some 44) rfl (.int .u64 (((n / 16) / 16 : Nat) : Int)) (fun _ => by kernel_rfl) ?_
      refine pl_val (want_no rfl) (some 45) rfl (.int .u64 16) (fun _ => by kernel_rfl) ?_
      by_cases c2 : ((n / 16) / 16) < 16
      · skip
        refine pl_val (want_no rfl) (some 46) rfl (.bool false) (fun w => Eq.trans (b := .ok (.value (.bool (decide ((16 : Int) ≤ ((((n / 16) / 16) : Nat) : Int))))) w) (by kernel_rfl) (by rw [decide_eq_false (by omega)])) ?_
        refine pl_nil ?_
        refine au_then ?_
        refine wp_cond_false (by kernel_rfl) ?_
        refine wp_exit ?_
        refine au_then_exit ?_
        refine au_then_exit ?_
        refine au_block_exit ?_
        refine au_then ?_
        refine wp_seq ?_
        refine rg_lit ?_
        refine pl_val (want_no rfl) (some 58) rfl (.int .i64 63) (fun _ => by kernel_rfl) ?_
        refine pl_val (want_no rfl) (some 59) rfl (.int .i64 62) (fun _ => by kernel_rfl) ?_
        refine pl_val (want_no rfl) (some 13) rfl (.int .i64 62) (fun _ => by kernel_rfl) ?_
        refine pl_nil ?_
        refine au_then ?_
        refine rg_lit ?_
        refine pl_val (want_no rfl) (some 60) rfl (.int .i64 62) (fun _ => by kernel_rfl) ?_
        refine pl_val (want_no rfl) (some 61) rfl (.int .u64 (((n / 16) / 16 : Nat) : Int)) (fun _ => by kernel_rfl) ?_
        refine pl_val (want_no rfl) (some 62) rfl (.int .u8 (dgt ((n / 16) / 16))) (run_ixS 9 Tryz.underlying9 _ _ rfl ⟨#[48, 49, 50, 51, 52, 53, 54, 55, 56, 57, 97, 98, 99, 100, 101, 102, 103, 104, 105, 106, 107, 108, 109, 110, 111, 112, 113, 114, 115, 116, 117, 118, 119, 120, 121, 122]⟩ (by kernel_rfl) .u64 ((n / 16) / 16) (by kernel_rfl) (show ((n / 16) / 16) < 36 by omega)) ?_
        refine pl_val (want_no rfl) (some 63) rfl (.pointer (some ⟨g1, 62, none⟩)) (fun _ => by kernel_rfl) ?_
        refine pl_put1 M (want_no rfl) rfl 5 _ _ rfl 0 g1 62 (by kernel_rfl) 65 145 (w8 (upd (upd (fun _ => 0) 64 (dgt (n % 16))) 63 (dgt ((n / 16) % 16)))) rfl (.int .u8 (dgt ((n / 16) / 16))) (w8 (upd (upd (upd (fun _ => 0) 64 (dgt (n % 16))) 63 (dgt ((n / 16) % 16))) 62 (dgt ((n / 16) / 16)))) (by kernel_rfl) inz5 (by decide) rfl rfl (fun j _ => put_w8 _ _ _ j) ?_
        intro u6 M
        replace M : Mem ⟨w, []⟩ [⟨g1, .cells (av 65 (w8 (upd (upd (upd (fun _ => 0) 64 (dgt (n % 16))) 63 (dgt ((n / 16) % 16))) 62 (dgt ((n / 16) / 16))))) 145⟩] u6 := M
        refine pl_nil ?_
        refine au_then ?_
        refine wp_seq ?_
        refine wp_seq ?_
        refine rg_lit ?_
        refine pl_val (want_no rfl) (some 89) rfl (.bool false) (fun _ => by kernel_rfl) ?_
        refine pl_nil ?_
        refine au_then ?_
        refine wp_cond_false (by kernel_rfl) ?_
        refine wp_skip ?_
        refine au_then ?_
        refine wp_seq ?_
        refine wp_seq ?_
        refine rg_lit ?_
        refine pl_val (want_no rfl) (some 94) rfl (.bool false) (fun _ => by kernel_rfl) ?_
        refine pl_nil ?_
        refine au_then ?_
        refine wp_cond_false (by kernel_rfl) ?_
        refine wp_skip ?_
        refine au_then ?_
        refine wp_seq ?_
        refine rg_lit ?_
        refine pl_val (want_no rfl) (some 99) rfl (.int .i64 62) (fun _ => by kernel_rfl) ?_
        refine pl_val (want_no rfl) (some 100) rfl (.slice (some ⟨g1, 62, none⟩) 3 3) (fun _ => by kernel_rfl) ?_
        refine pl_backO M (want_no rfl) (some 101) rfl _ rfl 0 g1 62 3 3 65 145 (upd (upd (upd (fun _ => 0) 64 (dgt (n % 16))) 63 (dgt ((n / 16) % 16))) 62 (dgt ((n / 16) / 16))) (by kernel_rfl) rfl (by decide) (((NB.z.u _ (bt_nn _ _)).u _ (bt_nn _ _)).u _ (bt_nn _ _)) ?_
        refine pl_val (want_no rfl) (some 11) rfl (.string (bs ((List.range 3).map fun j => (upd (upd (upd (fun _ => 0) 64 (dgt (n % 16))) 63 (dgt ((n / 16) % 16))) 62 (dgt ((n / 16) / 16))) (62 + j)))) (fun _ => by kernel_rfl) ?_
        refine pl_nil ?_
        refine au_then ?_
        refine wp_ret ?_
        have e0 : (hxT n) = (bs ((List.range 3).map fun j => (upd (upd (upd (fun _ => 0) 64 (dgt (n % 16))) 63 (dgt ((n / 16) % 16))) 62 (dgt ((n / 16) / 16))) (62 + j))) := by unfold hxT; rw [if_neg (by omega), if_neg (by omega), if_pos (by omega)]; rfl
        exact bodyPost_ret (v := .tuple #[.slice none 0 0, .string (bs ((List.range 3).map fun j => (upd (upd (upd (fun _ => 0) 64 (dgt (n % 16))) 63 (dgt ((n / 16) % 16))) 62 (dgt ((n / 16) / 16))) (62 + j)))]) (results_tmp2 Tryz.results99 _ _ _ _ (by kernel_rfl) (by kernel_rfl)) (by kernel_rfl) ⟨by rw [e0], below_grown M.old⟩
      · skip
        refine pl_val (want_no rfl) (some 46) rfl (.bool true) (fun w => Eq.trans (b := .ok (.value (.bool (decide ((16 : Int) ≤ ((((n / 16) / 16) : Nat) : Int))))) w) (by kernel_rfl) (by rw [decide_eq_true (by omega)])) ?_
        refine pl_nil ?_
        refine au_then ?_
        refine wp_cond_true (by kernel_rfl) ?_
        refine wp_skip ?_
        refine au_then ?_
        refine wp_block ?_
        refine wp_seq ?_
        refine rg_lit ?_
        refine pl_val (want_no rfl) (some 47) rfl (.int .i64 63) (fun _ => by kernel_rfl) ?_
        refine pl_val (want_no rfl) (some 48) rfl (.int .i64 62) (fun _ => by kernel_rfl) ?_
        refine pl_val (want_no rfl) (some 13) rfl (.int .i64 62) (fun _ => by kernel_rfl) ?_
        refine pl_nil ?_
        refine au_then ?_
        refine wp_seq ?_
        refine rg_lit ?_
        refine pl_val (want_no rfl) (some 49) rfl (.int .i64 62) (fun _ => by kernel_rfl) ?_
        refine pl_val (want_no rfl) (some 50) rfl (.int .u64 (((n / 16) / 16 : Nat) : Int)) (fun _ => by kernel_rfl) ?_
        refine pl_val (want_no rfl) (some 51) rfl (.int .u64 15) (fun _ => by kernel_rfl) ?_
        refine pl_val (want_no rfl) (some 52) rfl (.int .u64 ((((n / 16) / 16) % 16 : Nat) : Int)) (fun w => Eq.trans (b := .ok (.value (.int .u64 (un ((((n / 16) / 16) : Nat) : Int) 15))) w) (by kernel_rfl) (by rw [un_15 _ (by omega)])) ?_
        refine pl_val (want_no rfl) (some 53) rfl (.int .u8 (dgt (((n / 16) / 16) % 16))) (run_ixS 9 Tryz.underlying9 _ _ rfl ⟨#[48, 49, 50, 51, 52, 53, 54, 55, 56, 57, 97, 98, 99, 100, 101, 102, 103, 104, 105, 106, 107, 108, 109, 110, 111, 112, 113, 114, 115, 116, 117, 118, 119, 120, 121, 122]⟩ (by kernel_rfl) .u64 (((n / 16) / 16) % 16) (by kernel_rfl) (show (((n / 16) / 16) % 16) < 36 by omega)) ?_
        refine pl_val (want_no rfl) (some 54) rfl (.pointer (some ⟨g1, 62, none⟩)) (fun _ => by kernel_rfl) ?_
        refine pl_put1 M (want_no rfl) rfl 5 _ _ rfl 0 g1 62 (by kernel_rfl) 65 145 (w8 (upd (upd (fun _ => 0) 64 (dgt (n % 16))) 63 (dgt ((n / 16) % 16)))) rfl (.int .u8 (dgt (((n / 16) / 16) % 16))) (w8 (upd (upd (upd (fun _ => 0) 64 (dgt (n % 16))) 63 (dgt ((n / 16) % 16))) 62 (dgt (((n / 16) / 16) % 16)))) (by kernel_rfl) inz5 (by decide) rfl rfl (fun j _ => put_w8 _ _ _ j) ?_
        intro u6 M
        replace M : Mem ⟨w, []⟩ [⟨g1, .cells (av 65 (w8 (upd (upd (upd (fun _ => 0) 64 (dgt (n % 16))) 63 (dgt ((n / 16) % 16))) 62 (dgt (((n / 16) / 16) % 16))))) 145⟩] u6 := M
        refine pl_nil ?_
        refine au_then ?_
        refine rg_lit ?_
        refine pl_val (want_no rfl) (some 55) rfl (.int .u64 (((n / 16) / 16 : Nat) : Int)) (fun _ => by kernel_rfl) ?_
        refine pl_val (want_no rfl) (some 56) rfl (.int .u64 4) (fun _ => by kernel_rfl) ?_
        refine pl_val (want_no rfl) (some 57) rfl (.int .u64 ((((n / 16) / 16) / 16 : Nat) : Int)) (fun w => Eq.trans (b := .ok (.value (.int .u64 (sr ((((n / 16) / 16) : Nat) : Int) 4))) w) (by kernel_rfl) (by rw [sr_4])) ?_
        refine pl_val (want_no rfl) (some 1) rfl (.int .u64 ((((n / 16) / 16) / 16 : Nat) : Int)) (fun _ => by kernel_rfl) ?_
        refine pl_nil ?_
        refine au_block ?_
        refine au_then ?_
        refine rounds_go ?_
        refine wp_seq ?_
        refine wp_seq ?_
        refine rg_lit ?_
        refine pl_val (want_no rfl) (some 44) rfl (.int .u64 ((((n / 16) / 16) / 16 : Nat) : Int)) (fun _ => by kernel_rfl) ?_
        refine pl_val (want_no rfl) (some 45) rfl (.int .u64 16) (fun _ => by kernel_rfl) ?_
        by_cases c3 : (((n / 16) / 16) / 16) < 16
        · skip
          refine pl_val (want_no rfl) (some 46) rfl (.bool false) (fun w => Eq.trans (b := .ok (.value (.bool (decide ((16 : Int) ≤ (((((n / 16) / 16) / 16) : Nat) : Int))))) w) (by kernel_rfl) (by rw [decide_eq_false (by omega)])) ?_
          refine pl_nil ?_
          refine au_then ?_
          refine wp_cond_false (by kernel_rfl) ?_
          refine wp_exit ?_
          refine au_then_exit ?_
          refine au_then_exit ?_
          refine au_block_exit ?_
          refine au_then ?_
          refine wp_seq ?_
          refine rg_lit ?_
          refine pl_val (want_no rfl) (some 58) rfl (.int .i64 62) (fun _ => by kernel_rfl) ?_
          refine pl_val (want_no rfl) (some 59) rfl (.int .i64 61) (fun _ => by kernel_rfl) ?_
          refine pl_val (want_no rfl) (some 13) rfl (.int .i64 61) (fun _ => by kernel_rfl) ?_
          refine pl_nil ?_
          refine au_then ?_
          refine rg_lit ?_
          refine pl_val (want_no rfl) (some 60) rfl (.int .i64 61) (fun _ => by kernel_rfl) ?_
          refine pl_val (want_no rfl) (some 61) rfl (.int .u64 ((((n / 16) / 16) / 16 : Nat) : Int)) (fun _ => by kernel_rfl) ?_
          refine pl_val (want_no rfl) (some 62) rfl (.int .u8 (dgt (((n / 16) / 16) / 16))) (run_ixS 9 Tryz.underlying9 _ _ rfl ⟨#[48, 49, 50, 51, 52, 53, 54, 55, 56, 57, 97, 98, 99, 100, 101, 102, 103, 104, 105, 106, 107, 108, 109, 110, 111, 112, 113, 114, 115, 116, 117, 118, 119, 120, 121, 122]⟩ (by kernel_rfl) .u64 (((n / 16) / 16) / 16) (by kernel_rfl) (show (((n / 16) / 16) / 16) < 36 by omega)) ?_
          refine pl_val (want_no rfl) (some 63) rfl (.pointer (some ⟨g1, 61, none⟩)) (fun _ => by kernel_rfl) ?_
          refine pl_put1 M (want_no rfl) rfl 5 _ _ rfl 0 g1 61 (by kernel_rfl) 65 145 (w8 (upd (upd (upd (fun _ => 0) 64 (dgt (n % 16))) 63 (dgt ((n / 16) % 16))) 62 (dgt (((n / 16) / 16) % 16)))) rfl (.int .u8 (dgt (((n / 16) / 16) / 16))) (w8 (upd (upd (upd (upd (fun _ => 0) 64 (dgt (n % 16))) 63 (dgt ((n / 16) % 16))) 62 (dgt (((n / 16) / 16) % 16))) 61 (dgt (((n / 16) / 16) / 16)))) (by kernel_rfl) inz5 (by decide) rfl rfl (fun j _ => put_w8 _ _ _ j) ?_
          intro u7 M
          replace M : Mem ⟨w, []⟩ [⟨g1, .cells (av 65 (w8 (upd (upd (upd (upd (fun _ => 0) 64 (dgt (n % 16))) 63 (dgt ((n / 16) % 16))) 62 (dgt (((n / 16) / 16) % 16))) 61 (dgt (((n / 16) / 16) / 16))))) 145⟩] u7 := M
          refine pl_nil ?_
          refine au_then ?_
          refine wp_seq ?_
          refine wp_seq ?_
          refine rg_lit ?_
          refine pl_val (want_no rfl) (some 89) rfl (.bool false) (fun _ => by kernel_rfl) ?_
          refine pl_nil ?_
          refine au_then ?_
          refine wp_cond_false (by kernel_rfl) ?_
          refine wp_skip ?_
          refine au_then ?_
          refine wp_seq ?_
          refine wp_seq ?_
          refine rg_lit ?_
          refine pl_val (want_no rfl) (some 94) rfl (.bool false) (fun _ => by kernel_rfl) ?_
          refine pl_nil ?_
          refine au_then ?_
          refine wp_cond_false (by kernel_rfl) ?_
          refine wp_skip ?_
          refine au_then ?_
          refine wp_seq ?_
          refine rg_lit ?_
          refine pl_val (want_no rfl) (some 99) rfl (.int .i64 61) (fun _ => by kernel_rfl) ?_
          refine pl_val (want_no rfl) (some 100) rfl (.slice (some ⟨g1, 61, none⟩) 4 4) (fun _ => by kernel_rfl) ?_
          refine pl_backO M (want_no rfl) (some 101) rfl _ rfl 0 g1 61 4 4 65 145 (upd (upd (upd (upd (fun _ => 0) 64 (dgt (n % 16))) 63 (dgt ((n / 16) % 16))) 62 (dgt (((n / 16) / 16) % 16))) 61 (dgt (((n / 16) / 16) / 16))) (by kernel_rfl) rfl (by decide) ((((NB.z.u _ (bt_nn _ _)).u _ (bt_nn _ _)).u _ (bt_nn _ _)).u _ (bt_nn _ _)) ?_
          refine pl_val (want_no rfl) (some 11) rfl (.string (bs ((List.range 4).map fun j => (upd (upd (upd (upd (fun _ => 0) 64 (dgt (n % 16))) 63 (dgt ((n / 16) % 16))) 62 (dgt (((n / 16) / 16) % 16))) 61 (dgt (((n / 16) / 16) / 16))) (61 + j)))) (fun _ => by kernel_rfl) ?_
          refine pl_nil ?_
          refine au_then ?_
          refine wp_ret ?_
          have e0 : (hxT n) = (bs ((List.range 4).map fun j => (upd (upd (upd (upd (fun _ => 0) 64 (dgt (n % 16))) 63 (dgt ((n / 16) % 16))) 62 (dgt (((n / 16) / 16) % 16))) 61 (dgt (((n / 16) / 16) / 16))) (61 + j))) := by unfold hxT; rw [if_neg (by omega), if_neg (by omega), if_neg (by omega)]; rfl
          exact bodyPost_ret (v := .tuple #[.slice none 0 0, .string (bs ((List.range 4).map fun j => (upd (upd (upd (upd (fun _ => 0) 64 (dgt (n % 16))) 63 (dgt ((n / 16) % 16))) 62 (dgt (((n / 16) / 16) % 16))) 61 (dgt (((n / 16) / 16) / 16))) (61 + j)))]) (results_tmp2 Tryz.results99 _ _ _ _ (by kernel_rfl) (by kernel_rfl)) (by kernel_rfl) ⟨by rw [e0], below_grown M.old⟩
        · exact absurd (by omega) c3

set_option maxRecDepth 100000 in
set_option maxHeartbeats 4000000 in
set_option linter.unusedSimpArgs false in
theorem c_fu16 (n : Nat) (hn : n < 65536) (w : World) (hL : Laid w)  :
    Calls Tryz.prog 77 #[.int .u64 ((n : Nat) : Int), .int .i64 16] w fun r w' => r = .returned (.string (hxT n)) ∧ Below w.heap.size w w' := by
  go_enter Tryz.func77, Tryz.ntmps77
  have M := Mem.start hL
  refine wp_seq ?_
  refine rg_lit ?_
  refine pl_val (want_no rfl) (some 4) rfl (.string ⟨#[]⟩) (fun _ => by kernel_rfl) ?_
  refine pl_nil ?_
  refine au_then ?_
  refine wp_seq ?_
  refine wp_seq ?_
  refine rg_lit ?_
  refine pl_val (want_no rfl) (some 9) rfl (.int .i64 16) (fun _ => by kernel_rfl) ?_
  refine pl_val (want_no rfl) (some 10) rfl (.bool false) (fun _ => by kernel_rfl) ?_
  refine pl_nil ?_
  refine au_then ?_
  refine wp_cond_false (by kernel_rfl) ?_
  refine wp_skip ?_
  refine au_then ?_
  refine wp_seq ?_
  refine rg_lit ?_
  refine pl_val (want_no rfl) (some 26) rfl (.int .u64 ((n : Nat) : Int)) (fun _ => by kernel_rfl) ?_
  refine pl_val (want_no rfl) (some 27) rfl (.int .i64 16) (fun _ => by kernel_rfl) ?_
  refine pl_call M (want_no rfl) (some 28) rfl 99 #[.slice none 0 0, .int .u64 ((n : Nat) : Int), .int .i64 16, .bool false, .bool false] (.tuple #[.slice none 0 0, .string (hxT n)]) (fun _ => by kernel_rfl) (fun w M => c_fbits n hn w M.laid) ?_
  intro u1 M
  refine pl_val (want_no rfl) (some 25) rfl (.tuple #[.slice none 0 0, .string (hxT n)]) (fun _ => by kernel_rfl) ?_
  refine pl_val (want_no rfl) (some 29) rfl (.slice none 0 0) (fun _ => by kernel_rfl) ?_
  refine pl_val (want_no rfl) (some 30) rfl (.string (hxT n)) (fun _ => by kernel_rfl) ?_
  refine pl_val (want_no rfl) (some 7) rfl (.slice none 0 0) (fun _ => by kernel_rfl) ?_
  refine pl_val (want_no rfl) (some 8) rfl (.string (hxT n)) (fun _ => by kernel_rfl) ?_
  refine pl_nil ?_
  refine au_then ?_
  refine wp_seq ?_
  refine rg_lit ?_
  refine pl_val (want_no rfl) (some 31) rfl (.string (hxT n)) (fun _ => by kernel_rfl) ?_
  refine pl_val (want_no rfl) (some 4) rfl (.string (hxT n)) (fun _ => by kernel_rfl) ?_
  refine pl_nil ?_
  refine au_then ?_
  refine wp_ret ?_
  exact bodyPost_ret (v := .string (hxT n)) (results_tmp1 Tryz.results77 _ _ _ (by kernel_rfl)) (by kernel_rfl) ⟨rfl, below_grown M.old⟩

set_option maxRecDepth 100000 in
set_option maxHeartbeats 4000000 in
set_option linter.unusedSimpArgs false in
theorem c_fmt16 (n : Nat) (hn : n < 65536) (w : World) (hL : Laid w)  :
    Calls Tryz.prog 53 #[.int .u64 ((n : Nat) : Int), .int .i64 16] w fun r w' => r = .returned (.string (hxT n)) ∧ Below w.heap.size w w' := by
  go_enter Tryz.func53, Tryz.ntmps53
  have M := Mem.start hL
  refine wp_seq ?_
  refine rg_lit ?_
  refine pl_val (want_no rfl) (some 4) rfl (.string ⟨#[]⟩) (fun _ => by kernel_rfl) ?_
  refine pl_nil ?_
  refine au_then ?_
  refine wp_seq ?_
  refine rg_lit ?_
  refine pl_val (want_no rfl) (some 5) rfl (.int .u64 ((n : Nat) : Int)) (fun _ => by kernel_rfl) ?_
  refine pl_val (want_no rfl) (some 6) rfl (.int .i64 16) (fun _ => by kernel_rfl) ?_
  refine pl_call M (want_no rfl) (some 7) rfl 77 #[.int .u64 ((n : Nat) : Int), .int .i64 16] (.string (hxT n)) (fun _ => by kernel_rfl) (fun w M => c_fu16 n hn w M.laid) ?_
  intro u1 M
  refine pl_val (want_no rfl) (some 4) rfl (.string (hxT n)) (fun _ => by kernel_rfl) ?_
  refine pl_nil ?_
  refine au_then ?_
  refine wp_ret ?_
  exact bodyPost_ret (v := .string (hxT n)) (results_tmp1 Tryz.results53 _ _ _ (by kernel_rfl)) (by kernel_rfl) ⟨rfl, below_grown M.old⟩


end Go.Proofs.YtndonmdgplojnaaGreatDoor

/- Texts as numbers: the walks of strconv.ParseUint and of number. -/
namespace Go.Proofs.YtndonmdgplojnaaGreatDoor
open Go.RowKit

theorem ob8_nn (x y : Int) : 0 ≤ ob8 x y ∧ ob8 x y < 256 := by
  unfold ob8
  rw [IntKind.wrap_u8]
  omega
/-- What a digit tells; 99, if it is none. -/
def dv (c : Int) : Int := if 48 ≤ c ∧ c ≤ 57 then c - 48 else if 97 ≤ ob8 c 32 ∧ ob8 c 32 ≤ 122 then ob8 c 32 - 97 + 10 else 99
theorem dv_d (c : Int) (h : 48 ≤ c ∧ c ≤ 57) : dv c = c - 48 := if_pos h
theorem dv_l (c : Int) (h : ¬ (48 ≤ c ∧ c ≤ 57)) (h2 : 97 ≤ ob8 c 32 ∧ ob8 c 32 ≤ 122) : dv c = ob8 c 32 - 97 + 10 := by
  unfold dv
  rw [if_neg h, if_pos h2]
theorem dv_n (c : Int) (h : ¬ (48 ≤ c ∧ c ≤ 57)) (h2 : ¬ (97 ≤ ob8 c 32 ∧ ob8 c 32 ≤ 122)) : dv c = 99 := by
  unfold dv
  rw [if_neg h, if_neg h2]
theorem dv_nn (c : Int) : 0 ≤ dv c ∧ dv c ≤ 99 := by
  have := ob8_nn c 32
  unfold dv
  split
  · omega
  · split <;> omega
/-- The number that the first j bytes tell. -/
def pz (b m : Int) (s : ByteArray) : Nat → Option Int
  | 0 => some 0
  | j + 1 => (pz b m s j).bind fun n => if dv (bt s j) < b then (if m < n * b + dv (bt s j) then none else some (n * b + dv (bt s j))) else none
def pv (b m : Int) (s : ByteArray) (j : Nat) : Int := (pz b m s j).getD 0
def prs (b m : Int) (s : ByteArray) : Option Int := if s = (⟨#[]⟩ : ByteArray) then none else pz b m s s.size
def nmb (b m : Int) (s : ByteArray) : Option Int := if (4 : Int) < (s.size : Int) then none else prs b m s
theorem pz_ok {b m : Int} {s : ByteArray} {j : Nat} {n d : Int} (h : pz b m s j = some n) (hd : dv (bt s j) = d) (h1 : d < b) (h2 : ¬ m < n * b + d) : pz b m s (j + 1) = some (n * b + d) := by
  unfold pz
  rw [h, hd]
  simp only [Option.bind_some]
  rw [if_pos h1, if_neg h2]
theorem pz_bad {b m : Int} {s : ByteArray} {j : Nat} {n d : Int} (h : pz b m s j = some n) (hd : dv (bt s j) = d) (h1 : ¬ d < b) : pz b m s (j + 1) = none := by
  unfold pz
  rw [h, hd]
  simp only [Option.bind_some]
  rw [if_neg h1]
theorem pz_big {b m : Int} {s : ByteArray} {j : Nat} {n d : Int} (h : pz b m s j = some n) (hd : dv (bt s j) = d) (h1 : d < b) (h2 : m < n * b + d) : pz b m s (j + 1) = none := by
  unfold pz
  rw [h, hd]
  simp only [Option.bind_some]
  rw [if_pos h1, if_pos h2]
theorem pz_none {b m : Int} {s : ByteArray} {j : Nat} (h : pz b m s j = none) (k : Nat) : pz b m s (j + k) = none := by
  induction k with
  | zero => exact h
  | succ k ih =>
    show pz b m s (j + k + 1) = none
    unfold pz
    rw [ih]
    rfl
theorem prs_none {b m : Int} {s : ByteArray} {j : Nat} (hj : j < s.size) (h : pz b m s (j + 1) = none) : prs b m s = none := by
  unfold prs
  split
  · rfl
  · obtain ⟨k, hk⟩ : ∃ k, s.size = j + 1 + k := ⟨s.size - (j + 1), by omega⟩
    rw [hk]
    exact pz_none h k
theorem pv_le {b m : Int} {s : ByteArray} (hm : 0 ≤ m) (hb : 0 ≤ b) (j : Nat) : 0 ≤ pv b m s j ∧ pv b m s j ≤ m := by
  unfold pv
  induction j with
  | zero => exact ⟨Int.le_refl 0, hm⟩
  | succ j ih =>
    unfold pz
    cases h : pz b m s j with
    | none => exact ⟨Int.le_refl 0, hm⟩
    | some n =>
      rw [h] at ih
      simp only [Option.bind_some, Option.getD_some] at ih ⊢
      have hd := dv_nn (bt s j)
      have hn : 0 ≤ n * b := Int.mul_nonneg ih.1 hb
      split
      · split
        · exact ⟨Int.le_refl 0, hm⟩
        · simp only [Option.getD_some]
          omega
      · exact ⟨Int.le_refl 0, hm⟩
theorem c_lower (c : Int) (w : World) : Calls Tryz.prog 112 #[.int .u8 c] w fun r w' => r = .returned (.int .u8 (ob8 c 32)) ∧ Below w.heap.size w w' :=
  (Any.internal_strconv_lower lays321 c w).mono fun _ _ ⟨he, hw⟩ => ⟨he, below_same hw⟩
set_option maxRecDepth 100000 in
set_option maxHeartbeats 4000000 in
set_option linter.unusedSimpArgs false in
theorem c_ipu10 (s : ByteArray) (hs : s.size ≤ 1000) (w : World) (hL : Laid w)  :
    Calls Tryz.prog 92 #[.string s, .int .i64 10, .int .i64 8] w fun r w' => ((∃ x : Int, prs 10 255 s = some x ∧ r = .returned (.tuple #[.int .u64 x, .nilIface])) ∨ (prs 10 255 s = none ∧ ∃ y k : Int, (k = 1 ∨ k = 2) ∧ r = .returned (.tuple #[.int .u64 y, .iface 131 (.int .i64 k)]))) ∧ Below w.heap.size w w' := by
  go_enter Tryz.func92, Tryz.ntmps92
  have M := Mem.start hL
  refine wp_seq ?_
  refine rg_lit ?_
  refine pl_val (want_no rfl) (some 6) rfl (.int .u64 0) (fun _ => by kernel_rfl) ?_
  refine pl_val (want_no rfl) (some 7) rfl (.nilIface) (fun _ => by kernel_rfl) ?_
  refine pl_nil ?_
  refine au_then ?_
  refine wp_seq ?_
  refine wp_seq ?_
  refine rg_lit ?_
  refine pl_val (want_no rfl) (some 18) rfl (.string s) (fun _ => by kernel_rfl) ?_
  by_cases c0 : s = (⟨#[]⟩ : ByteArray)
  · skip
    refine pl_val (want_no rfl) (some 19) rfl (.bool true) (fun w => Eq.trans (b := .ok (.value (.bool (s.toList == (⟨#[]⟩ : ByteArray).toList))) w) (by kernel_rfl) (by rw [seq_pos c0])) ?_
    refine pl_nil ?_
    refine au_then ?_
    refine wp_cond_true (by kernel_rfl) ?_
    refine wp_seq ?_
    refine rg_lit ?_
    refine pl_val (want_no rfl) (some 20) rfl (.iface 131 (.int .i64 2)) (fun _ => by kernel_rfl) ?_
    refine pl_val (want_no rfl) (some 6) rfl (.int .u64 0) (fun _ => by kernel_rfl) ?_
    refine pl_val (want_no rfl) (some 7) rfl (.iface 131 (.int .i64 2)) (fun _ => by kernel_rfl) ?_
    refine pl_nil ?_
    refine au_then ?_
    refine wp_ret ?_
    refine au_then_ret ?_
    exact bodyPost_ret (v := .tuple #[.int .u64 0, .iface 131 (.int .i64 2)]) (results_tmp2 Tryz.results92 _ _ _ _ (by kernel_rfl) (by kernel_rfl)) (by kernel_rfl) ⟨.inr ⟨if_pos c0, 0, 2, .inr rfl, rfl⟩, below_grown M.old⟩
  · skip
    refine pl_val (want_no rfl) (some 19) rfl (.bool false) (fun w => Eq.trans (b := .ok (.value (.bool (s.toList == (⟨#[]⟩ : ByteArray).toList))) w) (by kernel_rfl) (by rw [seq_neg c0])) ?_
    refine pl_nil ?_
    refine au_then ?_
    refine wp_cond_false (by kernel_rfl) ?_
    refine wp_skip ?_
    refine au_then ?_
    refine wp_seq ?_
    refine rg_lit ?_
    refine pl_val (want_no rfl) (some 21) rfl (.int .i64 10) (fun _ => by kernel_rfl) ?_
    refine pl_val (want_no rfl) (some 22) rfl (.bool false) (fun _ => by kernel_rfl) ?_
    refine pl_val (want_no rfl) (some 8) rfl (.bool false) (fun _ => by kernel_rfl) ?_
    refine pl_nil ?_
    refine au_then ?_
    refine wp_seq ?_
    refine rg_lit ?_
    refine pl_val (want_no rfl) (some 23) rfl (.string s) (fun _ => by kernel_rfl) ?_
    refine pl_val (want_no rfl) (some 9) rfl (.string s) (fun _ => by kernel_rfl) ?_
    refine pl_nil ?_
    refine au_then ?_
    refine wp_seq ?_
    refine wp_block ?_
    refine wp_seq ?_
    refine rg_lit ?_
    refine pl_val (want_no rfl) (some 26) rfl (.int .i64 10) (fun _ => by kernel_rfl) ?_
    refine pl_val (want_no rfl) (some 27) rfl (.bool true) (fun _ => by kernel_rfl) ?_
    refine pl_val (want_no rfl) (some 28) rfl (.bool true) (fun _ => by kernel_rfl) ?_
    refine pl_val (want_on 2 true rfl 28 rfl (by kernel_rfl)) (some 29) rfl (.int .i64 10) (fun _ => by kernel_rfl) ?_
    refine pl_val (want_on 2 true rfl 28 rfl (by kernel_rfl)) (some 30) rfl (.bool true) (fun _ => by kernel_rfl) ?_
    refine pl_val (want_no rfl) (some 31) rfl (.bool true) (fun _ => by kernel_rfl) ?_
    refine pl_val (want_no rfl) (some 25) rfl (.bool true) (fun _ => by kernel_rfl) ?_
    refine pl_nil ?_
    refine au_then ?_
    refine wp_cond_true (by kernel_rfl) ?_
    refine wp_skip ?_
    refine au_block ?_
    refine au_then ?_
    refine wp_seq ?_
    refine wp_seq ?_
    refine rg_lit ?_
    refine pl_val (want_no rfl) (some 76) rfl (.int .i64 8) (fun _ => by kernel_rfl) ?_
    refine pl_val (want_no rfl) (some 77) rfl (.bool false) (fun _ => by kernel_rfl) ?_
    refine pl_nil ?_
    refine au_then ?_
    refine wp_cond_false (by kernel_rfl) ?_
    refine wp_seq ?_
    refine rg_lit ?_
    refine pl_val (want_no rfl) (some 78) rfl (.int .i64 8) (fun _ => by kernel_rfl) ?_
    refine pl_val (want_no rfl) (some 79) rfl (.bool false) (fun _ => by kernel_rfl) ?_
    refine pl_val (want_no rfl) (some 80) rfl (.bool false) (fun _ => by kernel_rfl) ?_
    refine pl_val (want_on 2 false rfl 80 rfl (by kernel_rfl)) (some 81) rfl (.int .i64 8) (fun _ => by kernel_rfl) ?_
    refine pl_val (want_on 2 false rfl 80 rfl (by kernel_rfl)) (some 82) rfl (.bool false) (fun _ => by kernel_rfl) ?_
    refine pl_val (want_no rfl) (some 83) rfl (.bool false) (fun _ => by kernel_rfl) ?_
    refine pl_nil ?_
    refine au_then ?_
    refine wp_cond_false (by kernel_rfl) ?_
    refine wp_skip ?_
    refine au_then ?_
    refine wp_seq ?_
    refine rg_lit ?_
    refine pl_val (want_no rfl) (some 10) rfl (.int .u64 0) (fun _ => by kernel_rfl) ?_
    refine pl_nil ?_
    refine au_then ?_
    refine wp_seq ?_
    refine wp_seq ?_
    refine rg_lit ?_
    refine pl_val (want_no rfl) (some 85) rfl (.int .i64 10) (fun _ => by kernel_rfl) ?_
    refine pl_nil ?_
    refine au_then ?_
    refine wp_block ?_
    refine wp_seq ?_
    refine rg_lit ?_
    refine pl_val (want_no rfl) (some 91) rfl (.bool true) (fun _ => by kernel_rfl) ?_
    refine pl_val (want_no rfl) (some 90) rfl (.bool true) (fun _ => by kernel_rfl) ?_
    refine pl_nil ?_
    refine au_then ?_
    refine wp_cond_true (by kernel_rfl) ?_
    refine rg_lit ?_
    refine pl_val (want_no rfl) (some 10) rfl (.int .u64 1844674407370955162) (fun _ => by kernel_rfl) ?_
    refine pl_nil ?_
    refine au_block ?_
    refine au_then ?_
    refine wp_seq ?_
    refine rg_lit ?_
    refine pl_val (want_no rfl) (some 94) rfl (.int .i64 8) (fun _ => by kernel_rfl) ?_
    refine pl_val (want_no rfl) (some 95) rfl (.int .u64 8) (fun _ => by kernel_rfl) ?_
    refine pl_val (want_no rfl) (some 96) rfl (.int .u64 256) (fun _ => by kernel_rfl) ?_
    refine pl_val (want_no rfl) (some 97) rfl (.int .u64 255) (fun _ => by kernel_rfl) ?_
    refine pl_val (want_no rfl) (some 11) rfl (.int .u64 255) (fun _ => by kernel_rfl) ?_
    refine pl_nil ?_
    refine au_then ?_
    refine wp_seq ?_
    refine rg_lit ?_
    refine pl_val (want_no rfl) (some 12) rfl (.bool false) (fun _ => by kernel_rfl) ?_
    refine pl_nil ?_
    refine au_then ?_
    refine wp_seq ?_
    refine rg_lit ?_
    refine pl_val (want_no rfl) (some 13) rfl (.int .u64 0) (fun _ => by kernel_rfl) ?_
    refine pl_nil ?_
    refine au_then ?_
    refine wp_seq ?_
    refine wp_seq ?_
    refine rg_lit ?_
    refine pl_val (want_no rfl) (some 98) rfl (.string s) (fun _ => by kernel_rfl) ?_
    refine pl_conv M (want_no rfl) (some 99) rfl _ rfl s (by kernel_rfl) ?_
    intro g1 cap1 Z1 u1 hZ1 M
    replace M : Mem ⟨w, []⟩ [⟨g1, Z1⟩] u1 := M
    refine pl_val (want_no rfl) (some 100) rfl (.int .i64 ((s.size : Nat) : Int)) (fun _ => by kernel_rfl) ?_
    refine pl_val (want_no rfl) (some 101) rfl (.int .i64 0) (fun _ => by kernel_rfl) ?_
    refine pl_nil ?_
    refine au_then ?_
    refine wp_block ?_
    refine au_loop (fun j a w' => ∃ v1 : Nat → Value, a = ⟨#[.string s, .int .i64 10, .int .i64 8, undef, undef, undef, v1 6, v1 7, .bool false, .string s, .int .u64 1844674407370955162, .int .u64 255, .bool false, .int .u64 (pv 10 255 s j), undef, v1 15, v1 16, v1 17, .string s, .bool false, undef, .int .i64 10, .bool false, .string s, undef, .bool true, .int .i64 10, .bool true, .bool true, .int .i64 10, .bool true, .bool true, undef, undef, undef, undef, undef, undef, undef, undef, undef, undef, undef, undef, undef, undef, undef, undef, undef, undef, undef, undef, undef, undef, undef, undef, undef, undef, undef, undef, undef, undef, undef, undef, undef, undef, undef, undef, undef, undef, undef, undef, undef, undef, undef, undef, .int .i64 8, .bool false, .int .i64 8, .bool false, .bool false, .int .i64 8, .bool false, .bool false, undef, .int .i64 10, undef, undef, undef, undef, .bool true, .bool true, undef, undef, .int .i64 8, .int .u64 8, .int .u64 256, .int .u64 255, .string s, .slice (some ⟨g1, 0, none⟩) s.size cap1, .int .i64 ((s.size : Nat) : Int), .int .i64 (j : Int), v1 102, v1 103, v1 104, v1 105, v1 106, v1 107, v1 108, v1 109, v1 110, v1 111, v1 112, v1 113, v1 114, v1 115, v1 116, v1 117, v1 118, v1 119, v1 120, v1 121, v1 122, v1 123, v1 124, v1 125, v1 126, v1 127, v1 128, v1 129, v1 130, v1 131, v1 132, v1 133, v1 134, v1 135, v1 136, v1 137, v1 138, v1 139, v1 140, v1 141, v1 142, v1 143, v1 144, v1 145, v1 146, v1 147, v1 148, v1 149, v1 150, v1 151, v1 152, v1 153, v1 154, v1 155, v1 156, v1 157, v1 158, v1 159, v1 160, v1 161, v1 162, v1 163, undef, undef, undef, undef, undef, undef, undef, undef], []⟩ ∧ Mem ⟨w, []⟩ [⟨g1, Z1⟩] w' ∧ pz 10 255 s j = some (pv 10 255 s j)) s.size ⟨fun k_ => ([.int .u64 0, .nilIface, undef, undef, undef, undef, undef, undef, undef, undef, undef, undef, undef, undef, undef, undef, undef, undef, undef, undef, undef, undef, undef, undef, undef, undef, undef, undef, undef, undef, undef, undef, undef, undef, undef, undef, undef, undef, undef, undef, undef, undef, undef, undef, undef, undef, undef, undef, undef, undef, undef, undef, undef, undef, undef, undef, undef, undef, undef, undef, undef, undef, undef, undef, undef, undef, undef, undef, undef, undef, undef, undef, undef, undef, undef, undef, undef, undef, undef, undef, undef, undef, undef, undef, undef, undef, undef, undef, undef, undef, undef, undef, undef, undef, undef, undef, undef, undef, undef, undef, undef, undef, undef, undef, undef, undef, undef, undef, undef, undef, undef, undef, undef, undef, undef, undef, undef, undef, undef, undef, undef, undef, undef, undef, undef, undef, undef, undef, undef, undef, undef, undef, undef, undef, undef, undef, undef, undef, undef, undef, undef, undef, undef, undef, undef, undef, undef, undef, undef, undef, undef, undef, undef, undef, undef, undef, undef, undef] : List Value).getD (k_ - 6) undef, by kernel_rfl, M, rfl⟩ ?_ ?_
    · intro j a u0 hj hI
      obtain ⟨v1, rfl, M, hx⟩ := hI
      have hb := bt_nn s j
      have ho := ob8_nn (bt s j) 32
      have hp := pv_le (b := 10) (m := 255) (s := s) (by decide) (by decide) j
      refine wp_seq ?_
      refine rg_lit ?_
      refine pl_val (want_no rfl) (some 102) rfl (.bool true) (fun w => Eq.trans (b := .ok (.value (.bool (decide ((j : Int) < ((s.size : Nat) : Int))))) w) (by kernel_rfl) (by rw [decide_eq_true (by omega)])) ?_
      refine pl_nil ?_
      refine au_then ?_
      refine wp_seq ?_
      refine wp_cond_true (by kernel_rfl) ?_
      refine wp_skip ?_
      refine au_then ?_
      refine wp_seq ?_
      refine wp_block ?_
      refine wp_seq ?_
      refine rg_lit ?_
      refine pl_val (want_no rfl) (some 103) rfl (.pointer (some ⟨g1, j, none⟩)) (run_ix0 54 5 Tryz.underlying54 inz5 _ _ rfl g1 s.size cap1 (by kernel_rfl) .i64 j (by kernel_rfl) (by omega)) ?_
      refine pl_cell M (want_no rfl) (some 104) rfl 5 _ rfl g1 j (by kernel_rfl) (.int .u8 (bt s j)) (fun _ => by kernel_rfl) (fun w M => hZ1.cell (M.get 0 rfl) (vs8_sb _ _ (by omega))) ?_
      refine pl_val (want_no rfl) (some 15) rfl (.int .u8 (bt s j)) (fun _ => by kernel_rfl) ?_
      refine pl_nil ?_
      refine au_then ?_
      refine wp_seq ?_
      refine rg_lit ?_
      refine pl_val (want_no rfl) (some 16) rfl (.int .u8 0) (fun _ => by kernel_rfl) ?_
      refine pl_nil ?_
      refine au_then ?_
      refine wp_seq ?_
      refine wp_block ?_
      refine wp_seq ?_
      refine rg_lit ?_
      refine pl_val (want_no rfl) (some 107) rfl (.int .u8 (bt s j)) (fun _ => by kernel_rfl) ?_
      by_cases c1 : (bt s j) = 95
      · skip
        refine pl_val (want_no rfl) (some 108) rfl (.bool true) (fun w => Eq.trans (b := .ok (.value (.bool (decide ((bt s j) = 95)))) w) (by kernel_rfl) (by rw [decide_eq_true (c1)])) ?_
        refine pl_val (want_no rfl) (some 109) rfl (.bool true) (fun _ => by kernel_rfl) ?_
        refine pl_val (want_on 2 true rfl 109 rfl (by kernel_rfl)) (some 110) rfl (.bool false) (fun _ => by kernel_rfl) ?_
        refine pl_val (want_no rfl) (some 111) rfl (.bool false) (fun _ => by kernel_rfl) ?_
        refine pl_val (want_no rfl) (some 106) rfl (.bool false) (fun _ => by kernel_rfl) ?_
        refine pl_nil ?_
        refine au_then ?_
        refine wp_cond_false (by kernel_rfl) ?_
        refine wp_seq ?_
        refine rg_lit ?_
        refine pl_val (want_no rfl) (some 113) rfl (.int .u8 (bt s j)) (fun _ => by kernel_rfl) ?_
        by_cases c2 : (bt s j) < 48
        · omega
        · skip
          refine pl_val (want_no rfl) (some 114) rfl (.bool true) (fun w => Eq.trans (b := .ok (.value (.bool (decide (48 ≤ (bt s j))))) w) (by kernel_rfl) (by rw [decide_eq_true (by omega)])) ?_
          refine pl_val (want_no rfl) (some 115) rfl (.bool true) (fun _ => by kernel_rfl) ?_
          refine pl_val (want_on 2 true rfl 115 rfl (by kernel_rfl)) (some 116) rfl (.int .u8 (bt s j)) (fun _ => by kernel_rfl) ?_
          by_cases c3 : 57 < (bt s j)
          · skip
            refine pl_val (want_on 2 true rfl 115 rfl (by kernel_rfl)) (some 117) rfl (.bool false) (fun w => Eq.trans (b := .ok (.value (.bool (decide ((bt s j) ≤ 57)))) w) (by kernel_rfl) (by rw [decide_eq_false (by omega)])) ?_
            refine pl_val (want_no rfl) (some 118) rfl (.bool false) (fun _ => by kernel_rfl) ?_
            refine pl_val (want_no rfl) (some 112) rfl (.bool false) (fun _ => by kernel_rfl) ?_
            refine pl_nil ?_
            refine au_then ?_
            refine wp_cond_false (by kernel_rfl) ?_
            refine wp_seq ?_
            refine rg_lit ?_
            refine pl_val (want_no rfl) (some 122) rfl (.int .u8 (bt s j)) (fun _ => by kernel_rfl) ?_
            refine pl_call M (want_no rfl) (some 123) rfl 112 #[.int .u8 (bt s j)] (.int .u8 (ob8 (bt s j) 32)) (fun _ => by kernel_rfl) (fun w M => c_lower (bt s j) w) ?_
            intro u2 M
            by_cases c4 : (ob8 (bt s j) 32) < 97
            · exact absurd c4 (by rw [c1]; decide)
            · skip
              refine pl_val (want_no rfl) (some 124) rfl (.bool true) (fun w => Eq.trans (b := .ok (.value (.bool (decide (97 ≤ (ob8 (bt s j) 32))))) w) (by kernel_rfl) (by rw [decide_eq_true (by omega)])) ?_
              refine pl_val (want_no rfl) (some 125) rfl (.bool true) (fun _ => by kernel_rfl) ?_
              refine pl_val (want_on 3 true rfl 125 rfl (by kernel_rfl)) (some 126) rfl (.int .u8 (bt s j)) (fun _ => by kernel_rfl) ?_
              refine pl_call M (want_on 3 true rfl 125 rfl (by kernel_rfl)) (some 127) rfl 112 #[.int .u8 (bt s j)] (.int .u8 (ob8 (bt s j) 32)) (fun _ => by kernel_rfl) (fun w M => c_lower (bt s j) w) ?_
              intro u3 M
              by_cases c5 : 122 < (ob8 (bt s j) 32)
              · skip
                refine pl_val (want_on 3 true rfl 125 rfl (by kernel_rfl)) (some 128) rfl (.bool false) (fun w => Eq.trans (b := .ok (.value (.bool (decide ((ob8 (bt s j) 32) ≤ 122)))) w) (by kernel_rfl) (by rw [decide_eq_false (by omega)])) ?_
                refine pl_val (want_no rfl) (some 129) rfl (.bool false) (fun _ => by kernel_rfl) ?_
                refine pl_val (want_no rfl) (some 121) rfl (.bool false) (fun _ => by kernel_rfl) ?_
                refine pl_nil ?_
                refine au_then ?_
                refine wp_cond_false (by kernel_rfl) ?_
                refine wp_seq ?_
                refine rg_lit ?_
                refine pl_val (want_no rfl) (some 105) rfl (.iface 131 (.int .i64 2)) (fun _ => by kernel_rfl) ?_
                refine pl_val (want_no rfl) (some 6) rfl (.int .u64 0) (fun _ => by kernel_rfl) ?_
                refine pl_val (want_no rfl) (some 7) rfl (.iface 131 (.int .i64 2)) (fun _ => by kernel_rfl) ?_
                refine pl_nil ?_
                refine au_then ?_
                refine wp_ret ?_
                refine au_block_ret ?_
                refine au_then_ret ?_
                refine au_block_ret ?_
                refine au_then_ret ?_
                refine au_then_ret ?_
                refine au_block_ret ?_
                refine au_then_ret ?_
                exact bodyPost_ret (v := .tuple #[.int .u64 0, .iface 131 (.int .i64 2)]) (results_tmp2 Tryz.results92 _ _ _ _ (by kernel_rfl) (by kernel_rfl)) (by kernel_rfl) ⟨.inr ⟨prs_none hj (pz_bad hx (dv_n (bt s j) (by omega) (by omega)) (by omega)), 0, 2, .inr rfl, rfl⟩, below_grown M.old⟩
              · exact absurd c5 (by rw [c1]; decide)
          · omega
      · skip
        refine pl_val (want_no rfl) (some 108) rfl (.bool false) (fun w => Eq.trans (b := .ok (.value (.bool (decide ((bt s j) = 95)))) w) (by kernel_rfl) (by rw [decide_eq_false (c1)])) ?_
        refine pl_val (want_no rfl) (some 109) rfl (.bool false) (fun _ => by kernel_rfl) ?_
        refine pl_skip (want_off 2 true rfl 109 rfl (by kernel_rfl)) (some 110) rfl ?_
        refine pl_val (want_no rfl) (some 111) rfl (.bool false) (fun _ => by kernel_rfl) ?_
        refine pl_val (want_no rfl) (some 106) rfl (.bool false) (fun _ => by kernel_rfl) ?_
        refine pl_nil ?_
        refine au_then ?_
        refine wp_cond_false (by kernel_rfl) ?_
        refine wp_seq ?_
        refine rg_lit ?_
        refine pl_val (want_no rfl) (some 113) rfl (.int .u8 (bt s j)) (fun _ => by kernel_rfl) ?_
        by_cases c2 : (bt s j) < 48
        · skip
          refine pl_val (want_no rfl) (some 114) rfl (.bool false) (fun w => Eq.trans (b := .ok (.value (.bool (decide (48 ≤ (bt s j))))) w) (by kernel_rfl) (by rw [decide_eq_false (by omega)])) ?_
          refine pl_val (want_no rfl) (some 115) rfl (.bool false) (fun _ => by kernel_rfl) ?_
          refine pl_skip (want_off 2 true rfl 115 rfl (by kernel_rfl)) (some 116) rfl ?_
          refine pl_skip (want_off 2 true rfl 115 rfl (by kernel_rfl)) (some 117) rfl ?_
          refine pl_val (want_no rfl) (some 118) rfl (.bool false) (fun _ => by kernel_rfl) ?_
          refine pl_val (want_no rfl) (some 112) rfl (.bool false) (fun _ => by kernel_rfl) ?_
          refine pl_nil ?_
          refine au_then ?_
          refine wp_cond_false (by kernel_rfl) ?_
          refine wp_seq ?_
          refine rg_lit ?_
          refine pl_val (want_no rfl) (some 122) rfl (.int .u8 (bt s j)) (fun _ => by kernel_rfl) ?_
          refine pl_call M (want_no rfl) (some 123) rfl 112 #[.int .u8 (bt s j)] (.int .u8 (ob8 (bt s j) 32)) (fun _ => by kernel_rfl) (fun w M => c_lower (bt s j) w) ?_
          intro u2 M
          by_cases c3 : (ob8 (bt s j) 32) < 97
          · skip
            refine pl_val (want_no rfl) (some 124) rfl (.bool false) (fun w => Eq.trans (b := .ok (.value (.bool (decide (97 ≤ (ob8 (bt s j) 32))))) w) (by kernel_rfl) (by rw [decide_eq_false (by omega)])) ?_
            refine pl_val (want_no rfl) (some 125) rfl (.bool false) (fun _ => by kernel_rfl) ?_
            refine pl_skip (want_off 3 true rfl 125 rfl (by kernel_rfl)) (some 126) rfl ?_
            refine pl_skip (want_off 3 true rfl 125 rfl (by kernel_rfl)) (some 127) rfl ?_
            refine pl_skip (want_off 3 true rfl 125 rfl (by kernel_rfl)) (some 128) rfl ?_
            refine pl_val (want_no rfl) (some 129) rfl (.bool false) (fun _ => by kernel_rfl) ?_
            refine pl_val (want_no rfl) (some 121) rfl (.bool false) (fun _ => by kernel_rfl) ?_
            refine pl_nil ?_
            refine au_then ?_
            refine wp_cond_false (by kernel_rfl) ?_
            refine wp_seq ?_
            refine rg_lit ?_
            refine pl_val (want_no rfl) (some 105) rfl (.iface 131 (.int .i64 2)) (fun _ => by kernel_rfl) ?_
            refine pl_val (want_no rfl) (some 6) rfl (.int .u64 0) (fun _ => by kernel_rfl) ?_
            refine pl_val (want_no rfl) (some 7) rfl (.iface 131 (.int .i64 2)) (fun _ => by kernel_rfl) ?_
            refine pl_nil ?_
            refine au_then ?_
            refine wp_ret ?_
            refine au_block_ret ?_
            refine au_then_ret ?_
            refine au_block_ret ?_
            refine au_then_ret ?_
            refine au_then_ret ?_
            refine au_block_ret ?_
            refine au_then_ret ?_
            exact bodyPost_ret (v := .tuple #[.int .u64 0, .iface 131 (.int .i64 2)]) (results_tmp2 Tryz.results92 _ _ _ _ (by kernel_rfl) (by kernel_rfl)) (by kernel_rfl) ⟨.inr ⟨prs_none hj (pz_bad hx (dv_n (bt s j) (by omega) (by omega)) (by omega)), 0, 2, .inr rfl, rfl⟩, below_grown M.old⟩
          · skip
            refine pl_val (want_no rfl) (some 124) rfl (.bool true) (fun w => Eq.trans (b := .ok (.value (.bool (decide (97 ≤ (ob8 (bt s j) 32))))) w) (by kernel_rfl) (by rw [decide_eq_true (by omega)])) ?_
            refine pl_val (want_no rfl) (some 125) rfl (.bool true) (fun _ => by kernel_rfl) ?_
            refine pl_val (want_on 3 true rfl 125 rfl (by kernel_rfl)) (some 126) rfl (.int .u8 (bt s j)) (fun _ => by kernel_rfl) ?_
            refine pl_call M (want_on 3 true rfl 125 rfl (by kernel_rfl)) (some 127) rfl 112 #[.int .u8 (bt s j)] (.int .u8 (ob8 (bt s j) 32)) (fun _ => by kernel_rfl) (fun w M => c_lower (bt s j) w) ?_
            intro u3 M
            by_cases c4 : 122 < (ob8 (bt s j) 32)
            · skip
              refine pl_val (want_on 3 true rfl 125 rfl (by kernel_rfl)) (some 128) rfl (.bool false) (fun w => Eq.trans (b := .ok (.value (.bool (decide ((ob8 (bt s j) 32) ≤ 122)))) w) (by kernel_rfl) (by rw [decide_eq_false (by omega)])) ?_
              refine pl_val (want_no rfl) (some 129) rfl (.bool false) (fun _ => by kernel_rfl) ?_
              refine pl_val (want_no rfl) (some 121) rfl (.bool false) (fun _ => by kernel_rfl) ?_
              refine pl_nil ?_
              refine au_then ?_
              refine wp_cond_false (by kernel_rfl) ?_
              refine wp_seq ?_
              refine rg_lit ?_
              refine pl_val (want_no rfl) (some 105) rfl (.iface 131 (.int .i64 2)) (fun _ => by kernel_rfl) ?_
              refine pl_val (want_no rfl) (some 6) rfl (.int .u64 0) (fun _ => by kernel_rfl) ?_
              refine pl_val (want_no rfl) (some 7) rfl (.iface 131 (.int .i64 2)) (fun _ => by kernel_rfl) ?_
              refine pl_nil ?_
              refine au_then ?_
              refine wp_ret ?_
              refine au_block_ret ?_
              refine au_then_ret ?_
              refine au_block_ret ?_
              refine au_then_ret ?_
              refine au_then_ret ?_
              refine au_block_ret ?_
              refine au_then_ret ?_
              exact bodyPost_ret (v := .tuple #[.int .u64 0, .iface 131 (.int .i64 2)]) (results_tmp2 Tryz.results92 _ _ _ _ (by kernel_rfl) (by kernel_rfl)) (by kernel_rfl) ⟨.inr ⟨prs_none hj (pz_bad hx (dv_n (bt s j) (by omega) (by omega)) (by omega)), 0, 2, .inr rfl, rfl⟩, below_grown M.old⟩
            · skip
              refine pl_val (want_on 3 true rfl 125 rfl (by kernel_rfl)) (some 128) rfl (.bool true) (fun w => Eq.trans (b := .ok (.value (.bool (decide ((ob8 (bt s j) 32) ≤ 122)))) w) (by kernel_rfl) (by rw [decide_eq_true (by omega)])) ?_
              refine pl_val (want_no rfl) (some 129) rfl (.bool true) (fun _ => by kernel_rfl) ?_
              refine pl_val (want_no rfl) (some 121) rfl (.bool true) (fun _ => by kernel_rfl) ?_
              refine pl_nil ?_
              refine au_then ?_
              refine wp_cond_true (by kernel_rfl) ?_
              refine rg_lit ?_
              refine pl_val (want_no rfl) (some 130) rfl (.int .u8 (bt s j)) (fun _ => by kernel_rfl) ?_
              refine pl_call M (want_no rfl) (some 131) rfl 112 #[.int .u8 (bt s j)] (.int .u8 (ob8 (bt s j) 32)) (fun _ => by kernel_rfl) (fun w M => c_lower (bt s j) w) ?_
              intro u4 M
              refine pl_val (want_no rfl) (some 132) rfl (.int .u8 (ob8 (bt s j) 32 - 97)) (fun w => Eq.trans (b := .ok (.value (.int .u8 (cv .u8 (ob8 (bt s j) 32 - 97)))) w) (by kernel_rfl) (by rw [cv_u8]; congr 3; omega)) ?_
              refine pl_val (want_no rfl) (some 133) rfl (.int .u8 (ob8 (bt s j) 32 - 97 + 10)) (fun w => Eq.trans (b := .ok (.value (.int .u8 (cv .u8 (ob8 (bt s j) 32 - 97 + 10)))) w) (by kernel_rfl) (by rw [cv_u8]; congr 3; omega)) ?_
              refine pl_val (want_no rfl) (some 16) rfl (.int .u8 (ob8 (bt s j) 32 - 97 + 10)) (fun _ => by kernel_rfl) ?_
              refine pl_nil ?_
              refine au_block ?_
              refine au_then ?_
              refine wp_seq ?_
              refine wp_seq ?_
              refine rg_lit ?_
              refine pl_val (want_no rfl) (some 134) rfl (.int .u8 (ob8 (bt s j) 32 - 97 + 10)) (fun _ => by kernel_rfl) ?_
              refine pl_val (want_no rfl) (some 135) rfl (.int .i64 10) (fun _ => by kernel_rfl) ?_
              refine pl_val (want_no rfl) (some 136) rfl (.int .u8 10) (fun _ => by kernel_rfl) ?_
              by_cases c5 : (ob8 (bt s j) 32 - 97 + 10) < 10
              · omega
              · skip
                refine pl_val (want_no rfl) (some 137) rfl (.bool true) (fun w => Eq.trans (b := .ok (.value (.bool (decide (10 ≤ (ob8 (bt s j) 32 - 97 + 10))))) w) (by kernel_rfl) (by rw [decide_eq_true (by omega)])) ?_
                refine pl_nil ?_
                refine au_then ?_
                refine wp_cond_true (by kernel_rfl) ?_
                refine wp_seq ?_
                refine rg_lit ?_
                refine pl_val (want_no rfl) (some 138) rfl (.iface 131 (.int .i64 2)) (fun _ => by kernel_rfl) ?_
                refine pl_val (want_no rfl) (some 6) rfl (.int .u64 0) (fun _ => by kernel_rfl) ?_
                refine pl_val (want_no rfl) (some 7) rfl (.iface 131 (.int .i64 2)) (fun _ => by kernel_rfl) ?_
                refine pl_nil ?_
                refine au_then ?_
                refine wp_ret ?_
                refine au_then_ret ?_
                refine au_block_ret ?_
                refine au_then_ret ?_
                refine au_then_ret ?_
                refine au_block_ret ?_
                refine au_then_ret ?_
                exact bodyPost_ret (v := .tuple #[.int .u64 0, .iface 131 (.int .i64 2)]) (results_tmp2 Tryz.results92 _ _ _ _ (by kernel_rfl) (by kernel_rfl)) (by kernel_rfl) ⟨.inr ⟨prs_none hj (pz_bad hx (dv_l (bt s j) (by omega) (by omega)) (by omega)), 0, 2, .inr rfl, rfl⟩, below_grown M.old⟩
        · skip
          refine pl_val (want_no rfl) (some 114) rfl (.bool true) (fun w => Eq.trans (b := .ok (.value (.bool (decide (48 ≤ (bt s j))))) w) (by kernel_rfl) (by rw [decide_eq_true (by omega)])) ?_
          refine pl_val (want_no rfl) (some 115) rfl (.bool true) (fun _ => by kernel_rfl) ?_
          refine pl_val (want_on 2 true rfl 115 rfl (by kernel_rfl)) (some 116) rfl (.int .u8 (bt s j)) (fun _ => by kernel_rfl) ?_
          by_cases c3 : 57 < (bt s j)
          · skip
            refine pl_val (want_on 2 true rfl 115 rfl (by kernel_rfl)) (some 117) rfl (.bool false) (fun w => Eq.trans (b := .ok (.value (.bool (decide ((bt s j) ≤ 57)))) w) (by kernel_rfl) (by rw [decide_eq_false (by omega)])) ?_
            refine pl_val (want_no rfl) (some 118) rfl (.bool false) (fun _ => by kernel_rfl) ?_
            refine pl_val (want_no rfl) (some 112) rfl (.bool false) (fun _ => by kernel_rfl) ?_
            refine pl_nil ?_
            refine au_then ?_
            refine wp_cond_false (by kernel_rfl) ?_
            refine wp_seq ?_
            refine rg_lit ?_
            refine pl_val (want_no rfl) (some 122) rfl (.int .u8 (bt s j)) (fun _ => by kernel_rfl) ?_
            refine pl_call M (want_no rfl) (some 123) rfl 112 #[.int .u8 (bt s j)] (.int .u8 (ob8 (bt s j) 32)) (fun _ => by kernel_rfl) (fun w M => c_lower (bt s j) w) ?_
            intro u2 M
            by_cases c4 : (ob8 (bt s j) 32) < 97
            · skip
              refine pl_val (want_no rfl) (some 124) rfl (.bool false) (fun w => Eq.trans (b := .ok (.value (.bool (decide (97 ≤ (ob8 (bt s j) 32))))) w) (by kernel_rfl) (by rw [decide_eq_false (by omega)])) ?_
              refine pl_val (want_no rfl) (some 125) rfl (.bool false) (fun _ => by kernel_rfl) ?_
              refine pl_skip (want_off 3 true rfl 125 rfl (by kernel_rfl)) (some 126) rfl ?_
              refine pl_skip (want_off 3 true rfl 125 rfl (by kernel_rfl)) (some 127) rfl ?_
              refine pl_skip (want_off 3 true rfl 125 rfl (by kernel_rfl)) (some 128) rfl ?_
              refine pl_val (want_no rfl) (some 129) rfl (.bool false) (fun _ => by kernel_rfl) ?_
              refine pl_val (want_no rfl) (some 121) rfl (.bool false) (fun _ => by kernel_rfl) ?_
              refine pl_nil ?_
              refine au_then ?_
              refine wp_cond_false (by kernel_rfl) ?_
              refine wp_seq ?_
              refine rg_lit ?_
              refine pl_val (want_no rfl) (some 105) rfl (.iface 131 (.int .i64 2)) (fun _ => by kernel_rfl) ?_
              refine pl_val (want_no rfl) (some 6) rfl (.int .u64 0) (fun _ => by kernel_rfl) ?_
              refine pl_val (want_no rfl) (some 7) rfl (.iface 131 (.int .i64 2)) (fun _ => by kernel_rfl) ?_
              refine pl_nil ?_
              refine au_then ?_
              refine wp_ret ?_
              refine au_block_ret ?_
              refine au_then_ret ?_
              refine au_block_ret ?_
              refine au_then_ret ?_
              refine au_then_ret ?_
              refine au_block_ret ?_
              refine au_then_ret ?_
              exact bodyPost_ret (v := .tuple #[.int .u64 0, .iface 131 (.int .i64 2)]) (results_tmp2 Tryz.results92 _ _ _ _ (by kernel_rfl) (by kernel_rfl)) (by kernel_rfl) ⟨.inr ⟨prs_none hj (pz_bad hx (dv_n (bt s j) (by omega) (by omega)) (by omega)), 0, 2, .inr rfl, rfl⟩, below_grown M.old⟩
            · skip
              refine pl_val (want_no rfl) (some 124) rfl (.bool true) (fun w => Eq.trans (b := .ok (.value (.bool (decide (97 ≤ (ob8 (bt s j) 32))))) w) (by kernel_rfl) (by rw [decide_eq_true (by omega)])) ?_
              refine pl_val (want_no rfl) (some 125) rfl (.bool true) (fun _ => by kernel_rfl) ?_
              refine pl_val (want_on 3 true rfl 125 rfl (by kernel_rfl)) (some 126) rfl (.int .u8 (bt s j)) (fun _ => by kernel_rfl) ?_
              refine pl_call M (want_on 3 true rfl 125 rfl (by kernel_rfl)) (some 127) rfl 112 #[.int .u8 (bt s j)] (.int .u8 (ob8 (bt s j) 32)) (fun _ => by kernel_rfl) (fun w M => c_lower (bt s j) w) ?_
              intro u3 M
              by_cases c5 : 122 < (ob8 (bt s j) 32)
              · skip
                refine pl_val (want_on 3 true rfl 125 rfl (by kernel_rfl)) (some 128) rfl (.bool false) (fun w => Eq.trans (b := .ok (.value (.bool (decide ((ob8 (bt s j) 32) ≤ 122)))) w) (by kernel_rfl) (by rw [decide_eq_false (by omega)])) ?_
                refine pl_val (want_no rfl) (some 129) rfl (.bool false) (fun _ => by kernel_rfl) ?_
                refine pl_val (want_no rfl) (some 121) rfl (.bool false) (fun _ => by kernel_rfl) ?_
                refine pl_nil ?_
                refine au_then ?_
                refine wp_cond_false (by kernel_rfl) ?_
                refine wp_seq ?_
                refine rg_lit ?_
                refine pl_val (want_no rfl) (some 105) rfl (.iface 131 (.int .i64 2)) (fun _ => by kernel_rfl) ?_
                refine pl_val (want_no rfl) (some 6) rfl (.int .u64 0) (fun _ => by kernel_rfl) ?_
                refine pl_val (want_no rfl) (some 7) rfl (.iface 131 (.int .i64 2)) (fun _ => by kernel_rfl) ?_
                refine pl_nil ?_
                refine au_then ?_
                refine wp_ret ?_
                refine au_block_ret ?_
                refine au_then_ret ?_
                refine au_block_ret ?_
                refine au_then_ret ?_
                refine au_then_ret ?_
                refine au_block_ret ?_
                refine au_then_ret ?_
                exact bodyPost_ret (v := .tuple #[.int .u64 0, .iface 131 (.int .i64 2)]) (results_tmp2 Tryz.results92 _ _ _ _ (by kernel_rfl) (by kernel_rfl)) (by kernel_rfl) ⟨.inr ⟨prs_none hj (pz_bad hx (dv_n (bt s j) (by omega) (by omega)) (by omega)), 0, 2, .inr rfl, rfl⟩, below_grown M.old⟩
              · skip
                refine pl_val (want_on 3 true rfl 125 rfl (by kernel_rfl)) (some 128) rfl (.bool true) (fun w => Eq.trans (b := .ok (.value (.bool (decide ((ob8 (bt s j) 32) ≤ 122)))) w) (by kernel_rfl) (by rw [decide_eq_true (by omega)])) ?_
                refine pl_val (want_no rfl) (some 129) rfl (.bool true) (fun _ => by kernel_rfl) ?_
                refine pl_val (want_no rfl) (some 121) rfl (.bool true) (fun _ => by kernel_rfl) ?_
                refine pl_nil ?_
                refine au_then ?_
                refine wp_cond_true (by kernel_rfl) ?_
                refine rg_lit ?_
                refine pl_val (want_no rfl) (some 130) rfl (.int .u8 (bt s j)) (fun _ => by kernel_rfl) ?_
                refine pl_call M (want_no rfl) (some 131) rfl 112 #[.int .u8 (bt s j)] (.int .u8 (ob8 (bt s j) 32)) (fun _ => by kernel_rfl) (fun w M => c_lower (bt s j) w) ?_
                intro u4 M
                refine pl_val (want_no rfl) (some 132) rfl (.int .u8 (ob8 (bt s j) 32 - 97)) (fun w => Eq.trans (b := .ok (.value (.int .u8 (cv .u8 (ob8 (bt s j) 32 - 97)))) w) (by kernel_rfl) (by rw [cv_u8]; congr 3; omega)) ?_
                refine pl_val (want_no rfl) (some 133) rfl (.int .u8 (ob8 (bt s j) 32 - 97 + 10)) (fun w => Eq.trans (b := .ok (.value (.int .u8 (cv .u8 (ob8 (bt s j) 32 - 97 + 10)))) w) (by kernel_rfl) (by rw [cv_u8]; congr 3; omega)) ?_
                refine pl_val (want_no rfl) (some 16) rfl (.int .u8 (ob8 (bt s j) 32 - 97 + 10)) (fun _ => by kernel_rfl) ?_
                refine pl_nil ?_
                refine au_block ?_
                refine au_then ?_
                refine wp_seq ?_
                refine wp_seq ?_
                refine rg_lit ?_
                refine pl_val (want_no rfl) (some 134) rfl (.int .u8 (ob8 (bt s j) 32 - 97 + 10)) (fun _ => by kernel_rfl) ?_
                refine pl_val (want_no rfl) (some 135) rfl (.int .i64 10) (fun _ => by kernel_rfl) ?_
                refine pl_val (want_no rfl) (some 136) rfl (.int .u8 10) (fun _ => by kernel_rfl) ?_
                by_cases c6 : (ob8 (bt s j) 32 - 97 + 10) < 10
                · omega
                · skip
                  refine pl_val (want_no rfl) (some 137) rfl (.bool true) (fun w => Eq.trans (b := .ok (.value (.bool (decide (10 ≤ (ob8 (bt s j) 32 - 97 + 10))))) w) (by kernel_rfl) (by rw [decide_eq_true (by omega)])) ?_
                  refine pl_nil ?_
                  refine au_then ?_
                  refine wp_cond_true (by kernel_rfl) ?_
                  refine wp_seq ?_
                  refine rg_lit ?_
                  refine pl_val (want_no rfl) (some 138) rfl (.iface 131 (.int .i64 2)) (fun _ => by kernel_rfl) ?_
                  refine pl_val (want_no rfl) (some 6) rfl (.int .u64 0) (fun _ => by kernel_rfl) ?_
                  refine pl_val (want_no rfl) (some 7) rfl (.iface 131 (.int .i64 2)) (fun _ => by kernel_rfl) ?_
                  refine pl_nil ?_
                  refine au_then ?_
                  refine wp_ret ?_
                  refine au_then_ret ?_
                  refine au_block_ret ?_
                  refine au_then_ret ?_
                  refine au_then_ret ?_
                  refine au_block_ret ?_
                  refine au_then_ret ?_
                  exact bodyPost_ret (v := .tuple #[.int .u64 0, .iface 131 (.int .i64 2)]) (results_tmp2 Tryz.results92 _ _ _ _ (by kernel_rfl) (by kernel_rfl)) (by kernel_rfl) ⟨.inr ⟨prs_none hj (pz_bad hx (dv_l (bt s j) (by omega) (by omega)) (by omega)), 0, 2, .inr rfl, rfl⟩, below_grown M.old⟩
          · skip
            refine pl_val (want_on 2 true rfl 115 rfl (by kernel_rfl)) (some 117) rfl (.bool true) (fun w => Eq.trans (b := .ok (.value (.bool (decide ((bt s j) ≤ 57)))) w) (by kernel_rfl) (by rw [decide_eq_true (by omega)])) ?_
            refine pl_val (want_no rfl) (some 118) rfl (.bool true) (fun _ => by kernel_rfl) ?_
            refine pl_val (want_no rfl) (some 112) rfl (.bool true) (fun _ => by kernel_rfl) ?_
            refine pl_nil ?_
            refine au_then ?_
            refine wp_cond_true (by kernel_rfl) ?_
            refine rg_lit ?_
            refine pl_val (want_no rfl) (some 119) rfl (.int .u8 (bt s j)) (fun _ => by kernel_rfl) ?_
            refine pl_val (want_no rfl) (some 120) rfl (.int .u8 (bt s j - 48)) (fun w => Eq.trans (b := .ok (.value (.int .u8 (cv .u8 (bt s j - 48)))) w) (by kernel_rfl) (by rw [cv_u8]; congr 3; omega)) ?_
            refine pl_val (want_no rfl) (some 16) rfl (.int .u8 (bt s j - 48)) (fun _ => by kernel_rfl) ?_
            refine pl_nil ?_
            refine au_block ?_
            refine au_then ?_
            refine wp_seq ?_
            refine wp_seq ?_
            refine rg_lit ?_
            refine pl_val (want_no rfl) (some 134) rfl (.int .u8 (bt s j - 48)) (fun _ => by kernel_rfl) ?_
            refine pl_val (want_no rfl) (some 135) rfl (.int .i64 10) (fun _ => by kernel_rfl) ?_
            refine pl_val (want_no rfl) (some 136) rfl (.int .u8 10) (fun _ => by kernel_rfl) ?_
            by_cases c4 : (bt s j - 48) < 10
            · skip
              refine pl_val (want_no rfl) (some 137) rfl (.bool false) (fun w => Eq.trans (b := .ok (.value (.bool (decide (10 ≤ (bt s j - 48))))) w) (by kernel_rfl) (by rw [decide_eq_false (by omega)])) ?_
              refine pl_nil ?_
              refine au_then ?_
              refine wp_cond_false (by kernel_rfl) ?_
              refine wp_skip ?_
              refine au_then ?_
              refine wp_seq ?_
              refine wp_seq ?_
              refine rg_lit ?_
              refine pl_val (want_no rfl) (some 139) rfl (.int .u64 (pv 10 255 s j)) (fun _ => by kernel_rfl) ?_
              refine pl_val (want_no rfl) (some 140) rfl (.int .u64 1844674407370955162) (fun _ => by kernel_rfl) ?_
              refine pl_val (want_no rfl) (some 141) rfl (.bool false) (fun w => Eq.trans (b := .ok (.value (.bool (decide (1844674407370955162 ≤ (pv 10 255 s j))))) w) (by kernel_rfl) (by rw [decide_eq_false (by omega)])) ?_
              refine pl_nil ?_
              refine au_then ?_
              refine wp_cond_false (by kernel_rfl) ?_
              refine wp_skip ?_
              refine au_then ?_
              refine wp_seq ?_
              refine rg_lit ?_
              refine pl_val (want_no rfl) (some 144) rfl (.int .u64 (pv 10 255 s j)) (fun _ => by kernel_rfl) ?_
              refine pl_val (want_no rfl) (some 145) rfl (.int .i64 10) (fun _ => by kernel_rfl) ?_
              refine pl_val (want_no rfl) (some 146) rfl (.int .u64 10) (fun _ => by kernel_rfl) ?_
              refine pl_val (want_no rfl) (some 147) rfl (.int .u64 (pv 10 255 s j * 10)) (fun w => Eq.trans (b := .ok (.value (.int .u64 (cv .u64 (pv 10 255 s j * 10)))) w) (by kernel_rfl) (by rw [cv_u64]; congr 3; omega)) ?_
              refine pl_val (want_no rfl) (some 13) rfl (.int .u64 (pv 10 255 s j * 10)) (fun _ => by kernel_rfl) ?_
              refine pl_nil ?_
              refine au_then ?_
              refine wp_seq ?_
              refine rg_lit ?_
              refine pl_val (want_no rfl) (some 148) rfl (.int .u64 (pv 10 255 s j * 10)) (fun _ => by kernel_rfl) ?_
              refine pl_val (want_no rfl) (some 149) rfl (.int .u8 (bt s j - 48)) (fun _ => by kernel_rfl) ?_
              refine pl_val (want_no rfl) (some 150) rfl (.int .u64 (bt s j - 48)) (fun w => Eq.trans (b := .ok (.value (.int .u64 (cv .u64 (bt s j - 48)))) w) (by kernel_rfl) (by rw [cv_u64]; congr 3; omega)) ?_
              refine pl_val (want_no rfl) (some 151) rfl (.int .u64 (pv 10 255 s j * 10 + (bt s j - 48))) (fun w => Eq.trans (b := .ok (.value (.int .u64 (cv .u64 (pv 10 255 s j * 10 + (bt s j - 48))))) w) (by kernel_rfl) (by rw [cv_u64]; congr 3; omega)) ?_
              refine pl_val (want_no rfl) (some 17) rfl (.int .u64 (pv 10 255 s j * 10 + (bt s j - 48))) (fun _ => by kernel_rfl) ?_
              refine pl_nil ?_
              refine au_then ?_
              refine wp_seq ?_
              refine wp_seq ?_
              refine rg_lit ?_
              refine pl_val (want_no rfl) (some 152) rfl (.int .u64 (pv 10 255 s j * 10 + (bt s j - 48))) (fun _ => by kernel_rfl) ?_
              refine pl_val (want_no rfl) (some 153) rfl (.int .u64 (pv 10 255 s j * 10)) (fun _ => by kernel_rfl) ?_
              refine pl_val (want_no rfl) (some 154) rfl (.bool false) (fun w => Eq.trans (b := .ok (.value (.bool (decide ((pv 10 255 s j * 10 + (bt s j - 48)) < (pv 10 255 s j * 10))))) w) (by kernel_rfl) (by rw [decide_eq_false (by omega)])) ?_
              refine pl_val (want_no rfl) (some 155) rfl (.bool false) (fun _ => by kernel_rfl) ?_
              refine pl_val (want_on 3 false rfl 155 rfl (by kernel_rfl)) (some 156) rfl (.int .u64 (pv 10 255 s j * 10 + (bt s j - 48))) (fun _ => by kernel_rfl) ?_
              refine pl_val (want_on 3 false rfl 155 rfl (by kernel_rfl)) (some 157) rfl (.int .u64 255) (fun _ => by kernel_rfl) ?_
              by_cases c5 : 255 < (pv 10 255 s j * 10 + (bt s j - 48))
              · skip
                refine pl_val (want_on 3 false rfl 155 rfl (by kernel_rfl)) (some 158) rfl (.bool true) (fun w => Eq.trans (b := .ok (.value (.bool (decide (255 < (pv 10 255 s j * 10 + (bt s j - 48)))))) w) (by kernel_rfl) (by rw [decide_eq_true (c5)])) ?_
                refine pl_val (want_no rfl) (some 159) rfl (.bool true) (fun _ => by kernel_rfl) ?_
                refine pl_nil ?_
                refine au_then ?_
                refine wp_cond_true (by kernel_rfl) ?_
                refine wp_seq ?_
                refine rg_lit ?_
                refine pl_val (want_no rfl) (some 160) rfl (.int .u64 255) (fun _ => by kernel_rfl) ?_
                refine pl_val (want_no rfl) (some 161) rfl (.iface 131 (.int .i64 1)) (fun _ => by kernel_rfl) ?_
                refine pl_val (want_no rfl) (some 6) rfl (.int .u64 255) (fun _ => by kernel_rfl) ?_
                refine pl_val (want_no rfl) (some 7) rfl (.iface 131 (.int .i64 1)) (fun _ => by kernel_rfl) ?_
                refine pl_nil ?_
                refine au_then ?_
                refine wp_ret ?_
                refine au_then_ret ?_
                refine au_block_ret ?_
                refine au_then_ret ?_
                refine au_then_ret ?_
                refine au_block_ret ?_
                refine au_then_ret ?_
                exact bodyPost_ret (v := .tuple #[.int .u64 255, .iface 131 (.int .i64 1)]) (results_tmp2 Tryz.results92 _ _ _ _ (by kernel_rfl) (by kernel_rfl)) (by kernel_rfl) ⟨.inr ⟨prs_none hj (pz_big hx (dv_d (bt s j) (by omega)) (by omega) (by omega)), 255, 1, .inl rfl, rfl⟩, below_grown M.old⟩
              · skip
                refine pl_val (want_on 3 false rfl 155 rfl (by kernel_rfl)) (some 158) rfl (.bool false) (fun w => Eq.trans (b := .ok (.value (.bool (decide (255 < (pv 10 255 s j * 10 + (bt s j - 48)))))) w) (by kernel_rfl) (by rw [decide_eq_false (c5)])) ?_
                refine pl_val (want_no rfl) (some 159) rfl (.bool false) (fun _ => by kernel_rfl) ?_
                refine pl_nil ?_
                refine au_then ?_
                refine wp_cond_false (by kernel_rfl) ?_
                refine wp_skip ?_
                refine au_then ?_
                refine rg_lit ?_
                refine pl_val (want_no rfl) (some 162) rfl (.int .u64 (pv 10 255 s j * 10 + (bt s j - 48))) (fun _ => by kernel_rfl) ?_
                have hpy := pz_ok hx (dv_d (bt s j) (by omega)) (by omega) (by omega)
                have hpv : pv 10 255 s (j + 1) = pv 10 255 s j * 10 + (bt s j - 48) := by unfold pv; rw [hpy]; rfl
                have hpz : pz 10 255 s (j + 1) = some (pv 10 255 s (j + 1)) := by rw [hpv]; exact hpy
                refine pl_val (want_no rfl) (some 13) rfl (.int .u64 (pv 10 255 s (j + 1))) (fun w => Eq.trans (b := .ok (.value (.int .u64 (pv 10 255 s j * 10 + (bt s j - 48)))) w) (by kernel_rfl) (by rw [hpv])) ?_
                refine pl_nil ?_
                refine au_block ?_
                refine au_then ?_
                refine rg_lit ?_
                refine pl_val (want_no rfl) (some 163) rfl (.int .i64 ((j + 1 : Nat) : Int)) (fun w => Eq.trans (b := .ok (.value (.int .i64 (IntKind.wrap .i64 ((j : Int) + 1)))) w) (by kernel_rfl) (by rw [wrap64 (by omega) (by omega)]; congr 3)) ?_
                refine pl_val (want_no rfl) (some 101) rfl (.int .i64 ((j + 1 : Nat) : Int)) (fun _ => by kernel_rfl) ?_
                refine pl_nil ?_
                refine au_then ?_
                exact ⟨fun k_ => ([v1 6, v1 7, undef, undef, undef, undef, undef, undef, undef, .int .u8 (bt s j), .int .u8 (bt s j - 48), .int .u64 (pv 10 255 s j * 10 + (bt s j - 48)), undef, undef, undef, undef, undef, undef, undef, undef, undef, undef, undef, undef, undef, undef, undef, undef, undef, undef, undef, undef, undef, undef, undef, undef, undef, undef, undef, undef, undef, undef, undef, undef, undef, undef, undef, undef, undef, undef, undef, undef, undef, undef, undef, undef, undef, undef, undef, undef, undef, undef, undef, undef, undef, undef, undef, undef, undef, undef, undef, undef, undef, undef, undef, undef, undef, undef, undef, undef, undef, undef, undef, undef, undef, undef, undef, undef, undef, undef, undef, undef, undef, undef, undef, undef, .bool true, .pointer (some ⟨g1, j, none⟩), .int .u8 (bt s j), v1 105, .bool false, .int .u8 (bt s j), .bool false, .bool false, undef, .bool false, .bool true, .int .u8 (bt s j), .bool true, .bool true, .int .u8 (bt s j), .bool true, .bool true, .int .u8 (bt s j), .int .u8 (bt s j - 48), v1 121, v1 122, v1 123, v1 124, v1 125, v1 126, v1 127, v1 128, v1 129, v1 130, v1 131, v1 132, v1 133, .int .u8 (bt s j - 48), .int .i64 10, .int .u8 10, .bool false, v1 138, .int .u64 (pv 10 255 s j), .int .u64 1844674407370955162, .bool false, v1 142, v1 143, .int .u64 (pv 10 255 s j), .int .i64 10, .int .u64 10, .int .u64 (pv 10 255 s j * 10), .int .u64 (pv 10 255 s j * 10), .int .u8 (bt s j - 48), .int .u64 (bt s j - 48), .int .u64 (pv 10 255 s j * 10 + (bt s j - 48)), .int .u64 (pv 10 255 s j * 10 + (bt s j - 48)), .int .u64 (pv 10 255 s j * 10), .bool false, .bool false, .int .u64 (pv 10 255 s j * 10 + (bt s j - 48)), .int .u64 255, .bool false, .bool false, v1 160, v1 161, .int .u64 (pv 10 255 s j * 10 + (bt s j - 48)), .int .i64 ((j + 1 : Nat) : Int)] : List Value).getD (k_ - 6) undef, by kernel_rfl, M, hpz⟩
            · skip
              refine pl_val (want_no rfl) (some 137) rfl (.bool true) (fun w => Eq.trans (b := .ok (.value (.bool (decide (10 ≤ (bt s j - 48))))) w) (by kernel_rfl) (by rw [decide_eq_true (by omega)])) ?_
              refine pl_nil ?_
              refine au_then ?_
              refine wp_cond_true (by kernel_rfl) ?_
              refine wp_seq ?_
              refine rg_lit ?_
              refine pl_val (want_no rfl) (some 138) rfl (.iface 131 (.int .i64 2)) (fun _ => by kernel_rfl) ?_
              refine pl_val (want_no rfl) (some 6) rfl (.int .u64 0) (fun _ => by kernel_rfl) ?_
              refine pl_val (want_no rfl) (some 7) rfl (.iface 131 (.int .i64 2)) (fun _ => by kernel_rfl) ?_
              refine pl_nil ?_
              refine au_then ?_
              refine wp_ret ?_
              refine au_then_ret ?_
              refine au_block_ret ?_
              refine au_then_ret ?_
              refine au_then_ret ?_
              refine au_block_ret ?_
              refine au_then_ret ?_
              exact bodyPost_ret (v := .tuple #[.int .u64 0, .iface 131 (.int .i64 2)]) (results_tmp2 Tryz.results92 _ _ _ _ (by kernel_rfl) (by kernel_rfl)) (by kernel_rfl) ⟨.inr ⟨prs_none hj (pz_bad hx (dv_d (bt s j) (by omega)) (by omega)), 0, 2, .inr rfl, rfl⟩, below_grown M.old⟩
    · intro a u0 hI
      obtain ⟨v1, rfl, M, hx⟩ := hI
      refine wp_seq ?_
      refine rg_lit ?_
      refine pl_val (want_no rfl) (some 102) rfl (.bool false) (fun w => Eq.trans (b := .ok (.value (.bool (decide (((s.size : Nat) : Int) < ((s.size : Nat) : Int))))) w) (by kernel_rfl) (by rw [decide_eq_false (by omega)])) ?_
      refine pl_nil ?_
      refine au_then ?_
      refine wp_seq ?_
      refine wp_cond_false (by kernel_rfl) ?_
      refine wp_exit ?_
      refine au_then_exit ?_
      refine au_then_exit ?_
      refine au_block_exit ?_
      refine au_then ?_
      refine wp_seq ?_
      refine wp_seq ?_
      refine rg_lit ?_
      refine pl_val (want_no rfl) (some 164) rfl (.bool false) (fun _ => by kernel_rfl) ?_
      refine pl_val (want_no rfl) (some 165) rfl (.bool false) (fun _ => by kernel_rfl) ?_
      refine pl_skip (want_off 1 true rfl 165 rfl (by kernel_rfl)) (some 166) rfl ?_
      refine pl_skip (want_off 1 true rfl 165 rfl (by kernel_rfl)) (some 167) rfl ?_
      refine pl_skip (want_off 1 true rfl 165 rfl (by kernel_rfl)) (some 168) rfl ?_
      refine pl_val (want_no rfl) (some 169) rfl (.bool false) (fun _ => by kernel_rfl) ?_
      refine pl_nil ?_
      refine au_then ?_
      refine wp_cond_false (by kernel_rfl) ?_
      refine wp_skip ?_
      refine au_then ?_
      refine wp_seq ?_
      refine rg_lit ?_
      refine pl_val (want_no rfl) (some 171) rfl (.int .u64 (pv 10 255 s (s.size))) (fun _ => by kernel_rfl) ?_
      refine pl_val (want_no rfl) (some 6) rfl (.int .u64 (pv 10 255 s (s.size))) (fun _ => by kernel_rfl) ?_
      refine pl_val (want_no rfl) (some 7) rfl (.nilIface) (fun _ => by kernel_rfl) ?_
      refine pl_nil ?_
      refine au_then ?_
      refine wp_ret ?_
      exact bodyPost_ret (v := .tuple #[.int .u64 (pv 10 255 s (s.size)), .nilIface]) (results_tmp2 Tryz.results92 _ _ _ _ (by kernel_rfl) (by kernel_rfl)) (by kernel_rfl) ⟨.inl ⟨(pv 10 255 s (s.size)), by unfold prs; rw [if_neg c0]; exact hx, rfl⟩, below_grown M.old⟩

set_option maxRecDepth 100000 in
set_option maxHeartbeats 4000000 in
set_option linter.unusedSimpArgs false in
theorem c_ipu16 (s : ByteArray) (hs : s.size ≤ 1000) (w : World) (hL : Laid w)  :
    Calls Tryz.prog 92 #[.string s, .int .i64 16, .int .i64 16] w fun r w' => ((∃ x : Int, prs 16 65535 s = some x ∧ r = .returned (.tuple #[.int .u64 x, .nilIface])) ∨ (prs 16 65535 s = none ∧ ∃ y k : Int, (k = 1 ∨ k = 2) ∧ r = .returned (.tuple #[.int .u64 y, .iface 131 (.int .i64 k)]))) ∧ Below w.heap.size w w' := by
  go_enter Tryz.func92, Tryz.ntmps92
  have M := Mem.start hL
  refine wp_seq ?_
  refine rg_lit ?_
  refine pl_val (want_no rfl) (some 6) rfl (.int .u64 0) (fun _ => by kernel_rfl) ?_
  refine pl_val (want_no rfl) (some 7) rfl (.nilIface) (fun _ => by kernel_rfl) ?_
  refine pl_nil ?_
  refine au_then ?_
  refine wp_seq ?_
  refine wp_seq ?_
  refine rg_lit ?_
  refine pl_val (want_no rfl) (some 18) rfl (.string s) (fun _ => by kernel_rfl) ?_
  by_cases c0 : s = (⟨#[]⟩ : ByteArray)
  · skip
    refine pl_val (want_no rfl) (some 19) rfl (.bool true) (fun w => Eq.trans (b := .ok (.value (.bool (s.toList == (⟨#[]⟩ : ByteArray).toList))) w) (by kernel_rfl) (by rw [seq_pos c0])) ?_
    refine pl_nil ?_
    refine au_then ?_
    refine wp_cond_true (by kernel_rfl) ?_
    refine wp_seq ?_
    refine rg_lit ?_
    refine pl_val (want_no rfl) (some 20) rfl (.iface 131 (.int .i64 2)) (fun _ => by kernel_rfl) ?_
    refine pl_val (want_no rfl) (some 6) rfl (.int .u64 0) (fun _ => by kernel_rfl) ?_
    refine pl_val (want_no rfl) (some 7) rfl (.iface 131 (.int .i64 2)) (fun _ => by kernel_rfl) ?_
    refine pl_nil ?_
    refine au_then ?_
    refine wp_ret ?_
    refine au_then_ret ?_
    exact bodyPost_ret (v := .tuple #[.int .u64 0, .iface 131 (.int .i64 2)]) (results_tmp2 Tryz.results92 _ _ _ _ (by kernel_rfl) (by kernel_rfl)) (by kernel_rfl) ⟨.inr ⟨if_pos c0, 0, 2, .inr rfl, rfl⟩, below_grown M.old⟩
  · skip
    refine pl_val (want_no rfl) (some 19) rfl (.bool false) (fun w => Eq.trans (b := .ok (.value (.bool (s.toList == (⟨#[]⟩ : ByteArray).toList))) w) (by kernel_rfl) (by rw [seq_neg c0])) ?_
    refine pl_nil ?_
    refine au_then ?_
    refine wp_cond_false (by kernel_rfl) ?_
    refine wp_skip ?_
    refine au_then ?_
    refine wp_seq ?_
    refine rg_lit ?_
    refine pl_val (want_no rfl) (some 21) rfl (.int .i64 16) (fun _ => by kernel_rfl) ?_
    refine pl_val (want_no rfl) (some 22) rfl (.bool false) (fun _ => by kernel_rfl) ?_
    refine pl_val (want_no rfl) (some 8) rfl (.bool false) (fun _ => by kernel_rfl) ?_
    refine pl_nil ?_
    refine au_then ?_
    refine wp_seq ?_
    refine rg_lit ?_
    refine pl_val (want_no rfl) (some 23) rfl (.string s) (fun _ => by kernel_rfl) ?_
    refine pl_val (want_no rfl) (some 9) rfl (.string s) (fun _ => by kernel_rfl) ?_
    refine pl_nil ?_
    refine au_then ?_
    refine wp_seq ?_
    refine wp_block ?_
    refine wp_seq ?_
    refine rg_lit ?_
    refine pl_val (want_no rfl) (some 26) rfl (.int .i64 16) (fun _ => by kernel_rfl) ?_
    refine pl_val (want_no rfl) (some 27) rfl (.bool true) (fun _ => by kernel_rfl) ?_
    refine pl_val (want_no rfl) (some 28) rfl (.bool true) (fun _ => by kernel_rfl) ?_
    refine pl_val (want_on 2 true rfl 28 rfl (by kernel_rfl)) (some 29) rfl (.int .i64 16) (fun _ => by kernel_rfl) ?_
    refine pl_val (want_on 2 true rfl 28 rfl (by kernel_rfl)) (some 30) rfl (.bool true) (fun _ => by kernel_rfl) ?_
    refine pl_val (want_no rfl) (some 31) rfl (.bool true) (fun _ => by kernel_rfl) ?_
    refine pl_val (want_no rfl) (some 25) rfl (.bool true) (fun _ => by kernel_rfl) ?_
    refine pl_nil ?_
    refine au_then ?_
    refine wp_cond_true (by kernel_rfl) ?_
    refine wp_skip ?_
    refine au_block ?_
    refine au_then ?_
    refine wp_seq ?_
    refine wp_seq ?_
    refine rg_lit ?_
    refine pl_val (want_no rfl) (some 76) rfl (.int .i64 16) (fun _ => by kernel_rfl) ?_
    refine pl_val (want_no rfl) (some 77) rfl (.bool false) (fun _ => by kernel_rfl) ?_
    refine pl_nil ?_
    refine au_then ?_
    refine wp_cond_false (by kernel_rfl) ?_
    refine wp_seq ?_
    refine rg_lit ?_
    refine pl_val (want_no rfl) (some 78) rfl (.int .i64 16) (fun _ => by kernel_rfl) ?_
    refine pl_val (want_no rfl) (some 79) rfl (.bool false) (fun _ => by kernel_rfl) ?_
    refine pl_val (want_no rfl) (some 80) rfl (.bool false) (fun _ => by kernel_rfl) ?_
    refine pl_val (want_on 2 false rfl 80 rfl (by kernel_rfl)) (some 81) rfl (.int .i64 16) (fun _ => by kernel_rfl) ?_
    refine pl_val (want_on 2 false rfl 80 rfl (by kernel_rfl)) (some 82) rfl (.bool false) (fun _ => by kernel_rfl) ?_
    refine pl_val (want_no rfl) (some 83) rfl (.bool false) (fun _ => by kernel_rfl) ?_
    refine pl_nil ?_
    refine au_then ?_
    refine wp_cond_false (by kernel_rfl) ?_
    refine wp_skip ?_
    refine au_then ?_
    refine wp_seq ?_
    refine rg_lit ?_
    refine pl_val (want_no rfl) (some 10) rfl (.int .u64 0) (fun _ => by kernel_rfl) ?_
    refine pl_nil ?_
    refine au_then ?_
    refine wp_seq ?_
    refine wp_seq ?_
    refine rg_lit ?_
    refine pl_val (want_no rfl) (some 85) rfl (.int .i64 16) (fun _ => by kernel_rfl) ?_
    refine pl_nil ?_
    refine au_then ?_
    refine wp_block ?_
    refine wp_seq ?_
    refine rg_lit ?_
    refine pl_val (want_no rfl) (some 91) rfl (.bool false) (fun _ => by kernel_rfl) ?_
    refine pl_val (want_no rfl) (some 90) rfl (.bool false) (fun _ => by kernel_rfl) ?_
    refine pl_nil ?_
    refine au_then ?_
    refine wp_cond_false (by kernel_rfl) ?_
    refine wp_seq ?_
    refine rg_lit ?_
    refine pl_val (want_no rfl) (some 93) rfl (.bool true) (fun _ => by kernel_rfl) ?_
    refine pl_val (want_no rfl) (some 92) rfl (.bool true) (fun _ => by kernel_rfl) ?_
    refine pl_nil ?_
    refine au_then ?_
    refine wp_cond_true (by kernel_rfl) ?_
    refine rg_lit ?_
    refine pl_val (want_no rfl) (some 10) rfl (.int .u64 1152921504606846976) (fun _ => by kernel_rfl) ?_
    refine pl_nil ?_
    refine au_block ?_
    refine au_then ?_
    refine wp_seq ?_
    refine rg_lit ?_
    refine pl_val (want_no rfl) (some 94) rfl (.int .i64 16) (fun _ => by kernel_rfl) ?_
    refine pl_val (want_no rfl) (some 95) rfl (.int .u64 16) (fun _ => by kernel_rfl) ?_
    refine pl_val (want_no rfl) (some 96) rfl (.int .u64 65536) (fun _ => by kernel_rfl) ?_
    refine pl_val (want_no rfl) (some 97) rfl (.int .u64 65535) (fun _ => by kernel_rfl) ?_
    refine pl_val (want_no rfl) (some 11) rfl (.int .u64 65535) (fun _ => by kernel_rfl) ?_
    refine pl_nil ?_
    refine au_then ?_
    refine wp_seq ?_
    refine rg_lit ?_
    refine pl_val (want_no rfl) (some 12) rfl (.bool false) (fun _ => by kernel_rfl) ?_
    refine pl_nil ?_
    refine au_then ?_
    refine wp_seq ?_
    refine rg_lit ?_
    refine pl_val (want_no rfl) (some 13) rfl (.int .u64 0) (fun _ => by kernel_rfl) ?_
    refine pl_nil ?_
    refine au_then ?_
    refine wp_seq ?_
    refine wp_seq ?_
    refine rg_lit ?_
    refine pl_val (want_no rfl) (some 98) rfl (.string s) (fun _ => by kernel_rfl) ?_
    refine pl_conv M (want_no rfl) (some 99) rfl _ rfl s (by kernel_rfl) ?_
    intro g1 cap1 Z1 u1 hZ1 M
    replace M : Mem ⟨w, []⟩ [⟨g1, Z1⟩] u1 := M
    refine pl_val (want_no rfl) (some 100) rfl (.int .i64 ((s.size : Nat) : Int)) (fun _ => by kernel_rfl) ?_
    refine pl_val (want_no rfl) (some 101) rfl (.int .i64 0) (fun _ => by kernel_rfl) ?_
    refine pl_nil ?_
    refine au_then ?_
    refine wp_block ?_
    refine au_loop (fun j a w' => ∃ v1 : Nat → Value, a = ⟨#[.string s, .int .i64 16, .int .i64 16, undef, undef, undef, v1 6, v1 7, .bool false, .string s, .int .u64 1152921504606846976, .int .u64 65535, .bool false, .int .u64 (pv 16 65535 s j), undef, v1 15, v1 16, v1 17, .string s, .bool false, undef, .int .i64 16, .bool false, .string s, undef, .bool true, .int .i64 16, .bool true, .bool true, .int .i64 16, .bool true, .bool true, undef, undef, undef, undef, undef, undef, undef, undef, undef, undef, undef, undef, undef, undef, undef, undef, undef, undef, undef, undef, undef, undef, undef, undef, undef, undef, undef, undef, undef, undef, undef, undef, undef, undef, undef, undef, undef, undef, undef, undef, undef, undef, undef, undef, .int .i64 16, .bool false, .int .i64 16, .bool false, .bool false, .int .i64 16, .bool false, .bool false, undef, .int .i64 16, undef, undef, undef, undef, .bool false, .bool false, .bool true, .bool true, .int .i64 16, .int .u64 16, .int .u64 65536, .int .u64 65535, .string s, .slice (some ⟨g1, 0, none⟩) s.size cap1, .int .i64 ((s.size : Nat) : Int), .int .i64 (j : Int), v1 102, v1 103, v1 104, v1 105, v1 106, v1 107, v1 108, v1 109, v1 110, v1 111, v1 112, v1 113, v1 114, v1 115, v1 116, v1 117, v1 118, v1 119, v1 120, v1 121, v1 122, v1 123, v1 124, v1 125, v1 126, v1 127, v1 128, v1 129, v1 130, v1 131, v1 132, v1 133, v1 134, v1 135, v1 136, v1 137, v1 138, v1 139, v1 140, v1 141, v1 142, v1 143, v1 144, v1 145, v1 146, v1 147, v1 148, v1 149, v1 150, v1 151, v1 152, v1 153, v1 154, v1 155, v1 156, v1 157, v1 158, v1 159, v1 160, v1 161, v1 162, v1 163, undef, undef, undef, undef, undef, undef, undef, undef], []⟩ ∧ Mem ⟨w, []⟩ [⟨g1, Z1⟩] w' ∧ pz 16 65535 s j = some (pv 16 65535 s j)) s.size ⟨fun k_ => ([.int .u64 0, .nilIface, undef, undef, undef, undef, undef, undef, undef, undef, undef, undef, undef, undef, undef, undef, undef, undef, undef, undef, undef, undef, undef, undef, undef, undef, undef, undef, undef, undef, undef, undef, undef, undef, undef, undef, undef, undef, undef, undef, undef, undef, undef, undef, undef, undef, undef, undef, undef, undef, undef, undef, undef, undef, undef, undef, undef, undef, undef, undef, undef, undef, undef, undef, undef, undef, undef, undef, undef, undef, undef, undef, undef, undef, undef, undef, undef, undef, undef, undef, undef, undef, undef, undef, undef, undef, undef, undef, undef, undef, undef, undef, undef, undef, undef, undef, undef, undef, undef, undef, undef, undef, undef, undef, undef, undef, undef, undef, undef, undef, undef, undef, undef, undef, undef, undef, undef, undef, undef, undef, undef, undef, undef, undef, undef, undef, undef, undef, undef, undef, undef, undef, undef, undef, undef, undef, undef, undef, undef, undef, undef, undef, undef, undef, undef, undef, undef, undef, undef, undef, undef, undef, undef, undef, undef, undef, undef, undef] : List Value).getD (k_ - 6) undef, by kernel_rfl, M, rfl⟩ ?_ ?_
    · intro j a u0 hj hI
      obtain ⟨v1, rfl, M, hx⟩ := hI
      have hb := bt_nn s j
      have ho := ob8_nn (bt s j) 32
      have hp := pv_le (b := 16) (m := 65535) (s := s) (by decide) (by decide) j
      refine wp_seq ?_
      refine rg_lit ?_
      refine pl_val (want_no rfl) (some 102) rfl (.bool true) (fun w => Eq.trans (b := .ok (.value (.bool (decide ((j : Int) < ((s.size : Nat) : Int))))) w) (by kernel_rfl) (by rw [decide_eq_true (by omega)])) ?_
      refine pl_nil ?_
      refine au_then ?_
      refine wp_seq ?_
      refine wp_cond_true (by kernel_rfl) ?_
      refine wp_skip ?_
      refine au_then ?_
      refine wp_seq ?_
      refine wp_block ?_
      refine wp_seq ?_
      refine rg_lit ?_
      refine pl_val (want_no rfl) (some 103) rfl (.pointer (some ⟨g1, j, none⟩)) (run_ix0 54 5 Tryz.underlying54 inz5 _ _ rfl g1 s.size cap1 (by kernel_rfl) .i64 j (by kernel_rfl) (by omega)) ?_
      refine pl_cell M (want_no rfl) (some 104) rfl 5 _ rfl g1 j (by kernel_rfl) (.int .u8 (bt s j)) (fun _ => by kernel_rfl) (fun w M => hZ1.cell (M.get 0 rfl) (vs8_sb _ _ (by omega))) ?_
      refine pl_val (want_no rfl) (some 15) rfl (.int .u8 (bt s j)) (fun _ => by kernel_rfl) ?_
      refine pl_nil ?_
      refine au_then ?_
      refine wp_seq ?_
      refine rg_lit ?_
      refine pl_val (want_no rfl) (some 16) rfl (.int .u8 0) (fun _ => by kernel_rfl) ?_
      refine pl_nil ?_
      refine au_then ?_
      refine wp_seq ?_
      refine wp_block ?_
      refine wp_seq ?_
      refine rg_lit ?_
      refine pl_val (want_no rfl) (some 107) rfl (.int .u8 (bt s j)) (fun _ => by kernel_rfl) ?_
      by_cases c1 : (bt s j) = 95
      · skip
        refine pl_val (want_no rfl) (some 108) rfl (.bool true) (fun w => Eq.trans (b := .ok (.value (.bool (decide ((bt s j) = 95)))) w) (by kernel_rfl) (by rw [decide_eq_true (c1)])) ?_
        refine pl_val (want_no rfl) (some 109) rfl (.bool true) (fun _ => by kernel_rfl) ?_
        refine pl_val (want_on 2 true rfl 109 rfl (by kernel_rfl)) (some 110) rfl (.bool false) (fun _ => by kernel_rfl) ?_
        refine pl_val (want_no rfl) (some 111) rfl (.bool false) (fun _ => by kernel_rfl) ?_
        refine pl_val (want_no rfl) (some 106) rfl (.bool false) (fun _ => by kernel_rfl) ?_
        refine pl_nil ?_
        refine au_then ?_
        refine wp_cond_false (by kernel_rfl) ?_
        refine wp_seq ?_
        refine rg_lit ?_
        refine pl_val (want_no rfl) (some 113) rfl (.int .u8 (bt s j)) (fun _ => by kernel_rfl) ?_
        by_cases c2 : (bt s j) < 48
        · omega
        · skip
          refine pl_val (want_no rfl) (some 114) rfl (.bool true) (fun w => Eq.trans (b := .ok (.value (.bool (decide (48 ≤ (bt s j))))) w) (by kernel_rfl) (by rw [decide_eq_true (by omega)])) ?_
          refine pl_val (want_no rfl) (some 115) rfl (.bool true) (fun _ => by kernel_rfl) ?_
          refine pl_val (want_on 2 true rfl 115 rfl (by kernel_rfl)) (some 116) rfl (.int .u8 (bt s j)) (fun _ => by kernel_rfl) ?_
          by_cases c3 : 57 < (bt s j)
          · skip
            refine pl_val (want_on 2 true rfl 115 rfl (by kernel_rfl)) (some 117) rfl (.bool false) (fun w => Eq.trans (b := .ok (.value (.bool (decide ((bt s j) ≤ 57)))) w) (by kernel_rfl) (by rw [decide_eq_false (by omega)])) ?_
            refine pl_val (want_no rfl) (some 118) rfl (.bool false) (fun _ => by kernel_rfl) ?_
            refine pl_val (want_no rfl) (some 112) rfl (.bool false) (fun _ => by kernel_rfl) ?_
            refine pl_nil ?_
            refine au_then ?_
            refine wp_cond_false (by kernel_rfl) ?_
            refine wp_seq ?_
            refine rg_lit ?_
            refine pl_val (want_no rfl) (some 122) rfl (.int .u8 (bt s j)) (fun _ => by kernel_rfl) ?_
            refine pl_call M (want_no rfl) (some 123) rfl 112 #[.int .u8 (bt s j)] (.int .u8 (ob8 (bt s j) 32)) (fun _ => by kernel_rfl) (fun w M => c_lower (bt s j) w) ?_
            intro u2 M
            by_cases c4 : (ob8 (bt s j) 32) < 97
            · exact absurd c4 (by rw [c1]; decide)
            · skip
              refine pl_val (want_no rfl) (some 124) rfl (.bool true) (fun w => Eq.trans (b := .ok (.value (.bool (decide (97 ≤ (ob8 (bt s j) 32))))) w) (by kernel_rfl) (by rw [decide_eq_true (by omega)])) ?_
              refine pl_val (want_no rfl) (some 125) rfl (.bool true) (fun _ => by kernel_rfl) ?_
              refine pl_val (want_on 3 true rfl 125 rfl (by kernel_rfl)) (some 126) rfl (.int .u8 (bt s j)) (fun _ => by kernel_rfl) ?_
              refine pl_call M (want_on 3 true rfl 125 rfl (by kernel_rfl)) (some 127) rfl 112 #[.int .u8 (bt s j)] (.int .u8 (ob8 (bt s j) 32)) (fun _ => by kernel_rfl) (fun w M => c_lower (bt s j) w) ?_
              intro u3 M
              by_cases c5 : 122 < (ob8 (bt s j) 32)
              · skip
                refine pl_val (want_on 3 true rfl 125 rfl (by kernel_rfl)) (some 128) rfl (.bool false) (fun w => Eq.trans (b := .ok (.value (.bool (decide ((ob8 (bt s j) 32) ≤ 122)))) w) (by kernel_rfl) (by rw [decide_eq_false (by omega)])) ?_
                refine pl_val (want_no rfl) (some 129) rfl (.bool false) (fun _ => by kernel_rfl) ?_
                refine pl_val (want_no rfl) (some 121) rfl (.bool false) (fun _ => by kernel_rfl) ?_
                refine pl_nil ?_
                refine au_then ?_
                refine wp_cond_false (by kernel_rfl) ?_
                refine wp_seq ?_
                refine rg_lit ?_
                refine pl_val (want_no rfl) (some 105) rfl (.iface 131 (.int .i64 2)) (fun _ => by kernel_rfl) ?_
                refine pl_val (want_no rfl) (some 6) rfl (.int .u64 0) (fun _ => by kernel_rfl) ?_
                refine pl_val (want_no rfl) (some 7) rfl (.iface 131 (.int .i64 2)) (fun _ => by kernel_rfl) ?_
                refine pl_nil ?_
                refine au_then ?_
                refine wp_ret ?_
                refine au_block_ret ?_
                refine au_then_ret ?_
                refine au_block_ret ?_
                refine au_then_ret ?_
                refine au_then_ret ?_
                refine au_block_ret ?_
                refine au_then_ret ?_
                exact bodyPost_ret (v := .tuple #[.int .u64 0, .iface 131 (.int .i64 2)]) (results_tmp2 Tryz.results92 _ _ _ _ (by kernel_rfl) (by kernel_rfl)) (by kernel_rfl) ⟨.inr ⟨prs_none hj (pz_bad hx (dv_n (bt s j) (by omega) (by omega)) (by omega)), 0, 2, .inr rfl, rfl⟩, below_grown M.old⟩
              · exact absurd c5 (by rw [c1]; decide)
          · omega
      · skip
        refine pl_val (want_no rfl) (some 108) rfl (.bool false) (fun w => Eq.trans (b := .ok (.value (.bool (decide ((bt s j) = 95)))) w) (by kernel_rfl) (by rw [decide_eq_false (c1)])) ?_
        refine pl_val (want_no rfl) (some 109) rfl (.bool false) (fun _ => by kernel_rfl) ?_
        refine pl_skip (want_off 2 true rfl 109 rfl (by kernel_rfl)) (some 110) rfl ?_
        refine pl_val (want_no rfl) (some 111) rfl (.bool false) (fun _ => by kernel_rfl) ?_
        refine pl_val (want_no rfl) (some 106) rfl (.bool false) (fun _ => by kernel_rfl) ?_
        refine pl_nil ?_
        refine au_then ?_
        refine wp_cond_false (by kernel_rfl) ?_
        refine wp_seq ?_
        refine rg_lit ?_
        refine pl_val (want_no rfl) (some 113) rfl (.int .u8 (bt s j)) (fun _ => by kernel_rfl) ?_
        by_cases c2 : (bt s j) < 48
        · skip
          refine pl_val (want_no rfl) (some 114) rfl (.bool false) (fun w => Eq.trans (b := .ok (.value (.bool (decide (48 ≤ (bt s j))))) w) (by kernel_rfl) (by rw [decide_eq_false (by omega)])) ?_
          refine pl_val (want_no rfl) (some 115) rfl (.bool false) (fun _ => by kernel_rfl) ?_
          refine pl_skip (want_off 2 true rfl 115 rfl (by kernel_rfl)) (some 116) rfl ?_
          refine pl_skip (want_off 2 true rfl 115 rfl (by kernel_rfl)) (some 117) rfl ?_
          refine pl_val (want_no rfl) (some 118) rfl (.bool false) (fun _ => by kernel_rfl) ?_
          refine pl_val (want_no rfl) (some 112) rfl (.bool false) (fun _ => by kernel_rfl) ?_
          refine pl_nil ?_
          refine au_then ?_
          refine wp_cond_false (by kernel_rfl) ?_
          refine wp_seq ?_
          refine rg_lit ?_
          refine pl_val (want_no rfl) (some 122) rfl (.int .u8 (bt s j)) (fun _ => by kernel_rfl) ?_
          refine pl_call M (want_no rfl) (some 123) rfl 112 #[.int .u8 (bt s j)] (.int .u8 (ob8 (bt s j) 32)) (fun _ => by kernel_rfl) (fun w M => c_lower (bt s j) w) ?_
          intro u2 M
          by_cases c3 : (ob8 (bt s j) 32) < 97
          · skip
            refine pl_val (want_no rfl) (some 124) rfl (.bool false) (fun w => Eq.trans (b := .ok (.value (.bool (decide (97 ≤ (ob8 (bt s j) 32))))) w) (by kernel_rfl) (by rw [decide_eq_false (by omega)])) ?_
            refine pl_val (want_no rfl) (some 125) rfl (.bool false) (fun _ => by kernel_rfl) ?_
            refine pl_skip (want_off 3 true rfl 125 rfl (by kernel_rfl)) (some 126) rfl ?_
            refine pl_skip (want_off 3 true rfl 125 rfl (by kernel_rfl)) (some 127) rfl ?_
            refine pl_skip (want_off 3 true rfl 125 rfl (by kernel_rfl)) (some 128) rfl ?_
            refine pl_val (want_no rfl) (some 129) rfl (.bool false) (fun _ => by kernel_rfl) ?_
            refine pl_val (want_no rfl) (some 121) rfl (.bool false) (fun _ => by kernel_rfl) ?_
            refine pl_nil ?_
            refine au_then ?_
            refine wp_cond_false (by kernel_rfl) ?_
            refine wp_seq ?_
            refine rg_lit ?_
            refine pl_val (want_no rfl) (some 105) rfl (.iface 131 (.int .i64 2)) (fun _ => by kernel_rfl) ?_
            refine pl_val (want_no rfl) (some 6) rfl (.int .u64 0) (fun _ => by kernel_rfl) ?_
            refine pl_val (want_no rfl) (some 7) rfl (.iface 131 (.int .i64 2)) (fun _ => by kernel_rfl) ?_
            refine pl_nil ?_
            refine au_then ?_
            refine wp_ret ?_
            refine au_block_ret ?_
            refine au_then_ret ?_
            refine au_block_ret ?_
            refine au_then_ret ?_
            refine au_then_ret ?_
            refine au_block_ret ?_
            refine au_then_ret ?_
            exact bodyPost_ret (v := .tuple #[.int .u64 0, .iface 131 (.int .i64 2)]) (results_tmp2 Tryz.results92 _ _ _ _ (by kernel_rfl) (by kernel_rfl)) (by kernel_rfl) ⟨.inr ⟨prs_none hj (pz_bad hx (dv_n (bt s j) (by omega) (by omega)) (by omega)), 0, 2, .inr rfl, rfl⟩, below_grown M.old⟩
          · skip
            refine pl_val (want_no rfl) (some 124) rfl (.bool true) (fun w => Eq.trans (b := .ok (.value (.bool (decide (97 ≤ (ob8 (bt s j) 32))))) w) (by kernel_rfl) (by rw [decide_eq_true (by omega)])) ?_
            refine pl_val (want_no rfl) (some 125) rfl (.bool true) (fun _ => by kernel_rfl) ?_
            refine pl_val (want_on 3 true rfl 125 rfl (by kernel_rfl)) (some 126) rfl (.int .u8 (bt s j)) (fun _ => by kernel_rfl) ?_
            refine pl_call M (want_on 3 true rfl 125 rfl (by kernel_rfl)) (some 127) rfl 112 #[.int .u8 (bt s j)] (.int .u8 (ob8 (bt s j) 32)) (fun _ => by kernel_rfl) (fun w M => c_lower (bt s j) w) ?_
            intro u3 M
            by_cases c4 : 122 < (ob8 (bt s j) 32)
            · skip
              refine pl_val (want_on 3 true rfl 125 rfl (by kernel_rfl)) (some 128) rfl (.bool false) (fun w => Eq.trans (b := .ok (.value (.bool (decide ((ob8 (bt s j) 32) ≤ 122)))) w) (by kernel_rfl) (by rw [decide_eq_false (by omega)])) ?_
              refine pl_val (want_no rfl) (some 129) rfl (.bool false) (fun _ => by kernel_rfl) ?_
              refine pl_val (want_no rfl) (some 121) rfl (.bool false) (fun _ => by kernel_rfl) ?_
              refine pl_nil ?_
              refine au_then ?_
              refine wp_cond_false (by kernel_rfl) ?_
              refine wp_seq ?_
              refine rg_lit ?_
              refine pl_val (want_no rfl) (some 105) rfl (.iface 131 (.int .i64 2)) (fun _ => by kernel_rfl) ?_
              refine pl_val (want_no rfl) (some 6) rfl (.int .u64 0) (fun _ => by kernel_rfl) ?_
              refine pl_val (want_no rfl) (some 7) rfl (.iface 131 (.int .i64 2)) (fun _ => by kernel_rfl) ?_
              refine pl_nil ?_
              refine au_then ?_
              refine wp_ret ?_
              refine au_block_ret ?_
              refine au_then_ret ?_
              refine au_block_ret ?_
              refine au_then_ret ?_
              refine au_then_ret ?_
              refine au_block_ret ?_
              refine au_then_ret ?_
              exact bodyPost_ret (v := .tuple #[.int .u64 0, .iface 131 (.int .i64 2)]) (results_tmp2 Tryz.results92 _ _ _ _ (by kernel_rfl) (by kernel_rfl)) (by kernel_rfl) ⟨.inr ⟨prs_none hj (pz_bad hx (dv_n (bt s j) (by omega) (by omega)) (by omega)), 0, 2, .inr rfl, rfl⟩, below_grown M.old⟩
            · skip
              refine pl_val (want_on 3 true rfl 125 rfl (by kernel_rfl)) (some 128) rfl (.bool true) (fun w => Eq.trans (b := .ok (.value (.bool (decide ((ob8 (bt s j) 32) ≤ 122)))) w) (by kernel_rfl) (by rw [decide_eq_true (by omega)])) ?_
              refine pl_val (want_no rfl) (some 129) rfl (.bool true) (fun _ => by kernel_rfl) ?_
              refine pl_val (want_no rfl) (some 121) rfl (.bool true) (fun _ => by kernel_rfl) ?_
              refine pl_nil ?_
              refine au_then ?_
              refine wp_cond_true (by kernel_rfl) ?_
              refine rg_lit ?_
              refine pl_val (want_no rfl) (some 130) rfl (.int .u8 (bt s j)) (fun _ => by kernel_rfl) ?_
              refine pl_call M (want_no rfl) (some 131) rfl 112 #[.int .u8 (bt s j)] (.int .u8 (ob8 (bt s j) 32)) (fun _ => by kernel_rfl) (fun w M => c_lower (bt s j) w) ?_
              intro u4 M
              refine pl_val (want_no rfl) (some 132) rfl (.int .u8 (ob8 (bt s j) 32 - 97)) (fun w => Eq.trans (b := .ok (.value (.int .u8 (cv .u8 (ob8 (bt s j) 32 - 97)))) w) (by kernel_rfl) (by rw [cv_u8]; congr 3; omega)) ?_
              refine pl_val (want_no rfl) (some 133) rfl (.int .u8 (ob8 (bt s j) 32 - 97 + 10)) (fun w => Eq.trans (b := .ok (.value (.int .u8 (cv .u8 (ob8 (bt s j) 32 - 97 + 10)))) w) (by kernel_rfl) (by rw [cv_u8]; congr 3; omega)) ?_
              refine pl_val (want_no rfl) (some 16) rfl (.int .u8 (ob8 (bt s j) 32 - 97 + 10)) (fun _ => by kernel_rfl) ?_
              refine pl_nil ?_
              refine au_block ?_
              refine au_then ?_
              refine wp_seq ?_
              refine wp_seq ?_
              refine rg_lit ?_
              refine pl_val (want_no rfl) (some 134) rfl (.int .u8 (ob8 (bt s j) 32 - 97 + 10)) (fun _ => by kernel_rfl) ?_
              refine pl_val (want_no rfl) (some 135) rfl (.int .i64 16) (fun _ => by kernel_rfl) ?_
              refine pl_val (want_no rfl) (some 136) rfl (.int .u8 16) (fun _ => by kernel_rfl) ?_
              by_cases c5 : (ob8 (bt s j) 32 - 97 + 10) < 16
              · skip
                refine pl_val (want_no rfl) (some 137) rfl (.bool false) (fun w => Eq.trans (b := .ok (.value (.bool (decide (16 ≤ (ob8 (bt s j) 32 - 97 + 10))))) w) (by kernel_rfl) (by rw [decide_eq_false (by omega)])) ?_
                refine pl_nil ?_
                refine au_then ?_
                refine wp_cond_false (by kernel_rfl) ?_
                refine wp_skip ?_
                refine au_then ?_
                refine wp_seq ?_
                refine wp_seq ?_
                refine rg_lit ?_
                refine pl_val (want_no rfl) (some 139) rfl (.int .u64 (pv 16 65535 s j)) (fun _ => by kernel_rfl) ?_
                refine pl_val (want_no rfl) (some 140) rfl (.int .u64 1152921504606846976) (fun _ => by kernel_rfl) ?_
                refine pl_val (want_no rfl) (some 141) rfl (.bool false) (fun w => Eq.trans (b := .ok (.value (.bool (decide (1152921504606846976 ≤ (pv 16 65535 s j))))) w) (by kernel_rfl) (by rw [decide_eq_false (by omega)])) ?_
                refine pl_nil ?_
                refine au_then ?_
                refine wp_cond_false (by kernel_rfl) ?_
                refine wp_skip ?_
                refine au_then ?_
                refine wp_seq ?_
                refine rg_lit ?_
                refine pl_val (want_no rfl) (some 144) rfl (.int .u64 (pv 16 65535 s j)) (fun _ => by kernel_rfl) ?_
                refine pl_val (want_no rfl) (some 145) rfl (.int .i64 16) (fun _ => by kernel_rfl) ?_
                refine pl_val (want_no rfl) (some 146) rfl (.int .u64 16) (fun _ => by kernel_rfl) ?_
                refine pl_val (want_no rfl) (some 147) rfl (.int .u64 (pv 16 65535 s j * 16)) (fun w => Eq.trans (b := .ok (.value (.int .u64 (cv .u64 (pv 16 65535 s j * 16)))) w) (by kernel_rfl) (by rw [cv_u64]; congr 3; omega)) ?_
                refine pl_val (want_no rfl) (some 13) rfl (.int .u64 (pv 16 65535 s j * 16)) (fun _ => by kernel_rfl) ?_
                refine pl_nil ?_
                refine au_then ?_
                refine wp_seq ?_
                refine rg_lit ?_
                refine pl_val (want_no rfl) (some 148) rfl (.int .u64 (pv 16 65535 s j * 16)) (fun _ => by kernel_rfl) ?_
                refine pl_val (want_no rfl) (some 149) rfl (.int .u8 (ob8 (bt s j) 32 - 97 + 10)) (fun _ => by kernel_rfl) ?_
                refine pl_val (want_no rfl) (some 150) rfl (.int .u64 (ob8 (bt s j) 32 - 97 + 10)) (fun w => Eq.trans (b := .ok (.value (.int .u64 (cv .u64 (ob8 (bt s j) 32 - 97 + 10)))) w) (by kernel_rfl) (by rw [cv_u64]; congr 3; omega)) ?_
                refine pl_val (want_no rfl) (some 151) rfl (.int .u64 (pv 16 65535 s j * 16 + (ob8 (bt s j) 32 - 97 + 10))) (fun w => Eq.trans (b := .ok (.value (.int .u64 (cv .u64 (pv 16 65535 s j * 16 + (ob8 (bt s j) 32 - 97 + 10))))) w) (by kernel_rfl) (by rw [cv_u64]; congr 3; omega)) ?_
                refine pl_val (want_no rfl) (some 17) rfl (.int .u64 (pv 16 65535 s j * 16 + (ob8 (bt s j) 32 - 97 + 10))) (fun _ => by kernel_rfl) ?_
                refine pl_nil ?_
                refine au_then ?_
                refine wp_seq ?_
                refine wp_seq ?_
                refine rg_lit ?_
                refine pl_val (want_no rfl) (some 152) rfl (.int .u64 (pv 16 65535 s j * 16 + (ob8 (bt s j) 32 - 97 + 10))) (fun _ => by kernel_rfl) ?_
                refine pl_val (want_no rfl) (some 153) rfl (.int .u64 (pv 16 65535 s j * 16)) (fun _ => by kernel_rfl) ?_
                refine pl_val (want_no rfl) (some 154) rfl (.bool false) (fun w => Eq.trans (b := .ok (.value (.bool (decide ((pv 16 65535 s j * 16 + (ob8 (bt s j) 32 - 97 + 10)) < (pv 16 65535 s j * 16))))) w) (by kernel_rfl) (by rw [decide_eq_false (by omega)])) ?_
                refine pl_val (want_no rfl) (some 155) rfl (.bool false) (fun _ => by kernel_rfl) ?_
                refine pl_val (want_on 3 false rfl 155 rfl (by kernel_rfl)) (some 156) rfl (.int .u64 (pv 16 65535 s j * 16 + (ob8 (bt s j) 32 - 97 + 10))) (fun _ => by kernel_rfl) ?_
                refine pl_val (want_on 3 false rfl 155 rfl (by kernel_rfl)) (some 157) rfl (.int .u64 65535) (fun _ => by kernel_rfl) ?_
                by_cases c6 : 65535 < (pv 16 65535 s j * 16 + (ob8 (bt s j) 32 - 97 + 10))
                · skip
                  refine pl_val (want_on 3 false rfl 155 rfl (by kernel_rfl)) (some 158) rfl (.bool true) (fun w => Eq.trans (b := .ok (.value (.bool (decide (65535 < (pv 16 65535 s j * 16 + (ob8 (bt s j) 32 - 97 + 10)))))) w) (by kernel_rfl) (by rw [decide_eq_true (c6)])) ?_
                  refine pl_val (want_no rfl) (some 159) rfl (.bool true) (fun _ => by kernel_rfl) ?_
                  refine pl_nil ?_
                  refine au_then ?_
                  refine wp_cond_true (by kernel_rfl) ?_
                  refine wp_seq ?_
                  refine rg_lit ?_
                  refine pl_val (want_no rfl) (some 160) rfl (.int .u64 65535) (fun _ => by kernel_rfl) ?_
                  refine pl_val (want_no rfl) (some 161) rfl (.iface 131 (.int .i64 1)) (fun _ => by kernel_rfl) ?_
                  refine pl_val (want_no rfl) (some 6) rfl (.int .u64 65535) (fun _ => by kernel_rfl) ?_
                  refine pl_val (want_no rfl) (some 7) rfl (.iface 131 (.int .i64 1)) (fun _ => by kernel_rfl) ?_
                  refine pl_nil ?_
                  refine au_then ?_
                  refine wp_ret ?_
                  refine au_then_ret ?_
                  refine au_block_ret ?_
                  refine au_then_ret ?_
                  refine au_then_ret ?_
                  refine au_block_ret ?_
                  refine au_then_ret ?_
                  exact bodyPost_ret (v := .tuple #[.int .u64 65535, .iface 131 (.int .i64 1)]) (results_tmp2 Tryz.results92 _ _ _ _ (by kernel_rfl) (by kernel_rfl)) (by kernel_rfl) ⟨.inr ⟨prs_none hj (pz_big hx (dv_l (bt s j) (by omega) (by omega)) (by omega) (by omega)), 65535, 1, .inl rfl, rfl⟩, below_grown M.old⟩
                · skip
                  refine pl_val (want_on 3 false rfl 155 rfl (by kernel_rfl)) (some 158) rfl (.bool false) (fun w => Eq.trans (b := .ok (.value (.bool (decide (65535 < (pv 16 65535 s j * 16 + (ob8 (bt s j) 32 - 97 + 10)))))) w) (by kernel_rfl) (by rw [decide_eq_false (c6)])) ?_
                  refine pl_val (want_no rfl) (some 159) rfl (.bool false) (fun _ => by kernel_rfl) ?_
                  refine pl_nil ?_
                  refine au_then ?_
                  refine wp_cond_false (by kernel_rfl) ?_
                  refine wp_skip ?_
                  refine au_then ?_
                  refine rg_lit ?_
                  refine pl_val (want_no rfl) (some 162) rfl (.int .u64 (pv 16 65535 s j * 16 + (ob8 (bt s j) 32 - 97 + 10))) (fun _ => by kernel_rfl) ?_
                  have hpy := pz_ok hx (dv_l (bt s j) (by omega) (by omega)) (by omega) (by omega)
                  have hpv : pv 16 65535 s (j + 1) = pv 16 65535 s j * 16 + (ob8 (bt s j) 32 - 97 + 10) := by unfold pv; rw [hpy]; rfl
                  have hpz : pz 16 65535 s (j + 1) = some (pv 16 65535 s (j + 1)) := by rw [hpv]; exact hpy
                  refine pl_val (want_no rfl) (some 13) rfl (.int .u64 (pv 16 65535 s (j + 1))) (fun w => Eq.trans (b := .ok (.value (.int .u64 (pv 16 65535 s j * 16 + (ob8 (bt s j) 32 - 97 + 10)))) w) (by kernel_rfl) (by rw [hpv])) ?_
                  refine pl_nil ?_
                  refine au_block ?_
                  refine au_then ?_
                  refine rg_lit ?_
                  refine pl_val (want_no rfl) (some 163) rfl (.int .i64 ((j + 1 : Nat) : Int)) (fun w => Eq.trans (b := .ok (.value (.int .i64 (IntKind.wrap .i64 ((j : Int) + 1)))) w) (by kernel_rfl) (by rw [wrap64 (by omega) (by omega)]; congr 3)) ?_
                  refine pl_val (want_no rfl) (some 101) rfl (.int .i64 ((j + 1 : Nat) : Int)) (fun _ => by kernel_rfl) ?_
                  refine pl_nil ?_
                  refine au_then ?_
                  exact ⟨fun k_ => ([v1 6, v1 7, undef, undef, undef, undef, undef, undef, undef, .int .u8 (bt s j), .int .u8 (ob8 (bt s j) 32 - 97 + 10), .int .u64 (pv 16 65535 s j * 16 + (ob8 (bt s j) 32 - 97 + 10)), undef, undef, undef, undef, undef, undef, undef, undef, undef, undef, undef, undef, undef, undef, undef, undef, undef, undef, undef, undef, undef, undef, undef, undef, undef, undef, undef, undef, undef, undef, undef, undef, undef, undef, undef, undef, undef, undef, undef, undef, undef, undef, undef, undef, undef, undef, undef, undef, undef, undef, undef, undef, undef, undef, undef, undef, undef, undef, undef, undef, undef, undef, undef, undef, undef, undef, undef, undef, undef, undef, undef, undef, undef, undef, undef, undef, undef, undef, undef, undef, undef, undef, undef, undef, .bool true, .pointer (some ⟨g1, j, none⟩), .int .u8 (bt s j), v1 105, .bool false, .int .u8 (bt s j), .bool false, .bool false, undef, .bool false, .bool false, .int .u8 (bt s j), .bool false, .bool false, undef, undef, .bool false, v1 119, v1 120, .bool true, .int .u8 (bt s j), .int .u8 (ob8 (bt s j) 32), .bool true, .bool true, .int .u8 (bt s j), .int .u8 (ob8 (bt s j) 32), .bool true, .bool true, .int .u8 (bt s j), .int .u8 (ob8 (bt s j) 32), .int .u8 (ob8 (bt s j) 32 - 97), .int .u8 (ob8 (bt s j) 32 - 97 + 10), .int .u8 (ob8 (bt s j) 32 - 97 + 10), .int .i64 16, .int .u8 16, .bool false, v1 138, .int .u64 (pv 16 65535 s j), .int .u64 1152921504606846976, .bool false, v1 142, v1 143, .int .u64 (pv 16 65535 s j), .int .i64 16, .int .u64 16, .int .u64 (pv 16 65535 s j * 16), .int .u64 (pv 16 65535 s j * 16), .int .u8 (ob8 (bt s j) 32 - 97 + 10), .int .u64 (ob8 (bt s j) 32 - 97 + 10), .int .u64 (pv 16 65535 s j * 16 + (ob8 (bt s j) 32 - 97 + 10)), .int .u64 (pv 16 65535 s j * 16 + (ob8 (bt s j) 32 - 97 + 10)), .int .u64 (pv 16 65535 s j * 16), .bool false, .bool false, .int .u64 (pv 16 65535 s j * 16 + (ob8 (bt s j) 32 - 97 + 10)), .int .u64 65535, .bool false, .bool false, v1 160, v1 161, .int .u64 (pv 16 65535 s j * 16 + (ob8 (bt s j) 32 - 97 + 10)), .int .i64 ((j + 1 : Nat) : Int)] : List Value).getD (k_ - 6) undef, by kernel_rfl, M, hpz⟩
              · skip
                refine pl_val (want_no rfl) (some 137) rfl (.bool true) (fun w => Eq.trans (b := .ok (.value (.bool (decide (16 ≤ (ob8 (bt s j) 32 - 97 + 10))))) w) (by kernel_rfl) (by rw [decide_eq_true (by omega)])) ?_
                refine pl_nil ?_
                refine au_then ?_
                refine wp_cond_true (by kernel_rfl) ?_
                refine wp_seq ?_
                refine rg_lit ?_
                refine pl_val (want_no rfl) (some 138) rfl (.iface 131 (.int .i64 2)) (fun _ => by kernel_rfl) ?_
                refine pl_val (want_no rfl) (some 6) rfl (.int .u64 0) (fun _ => by kernel_rfl) ?_
                refine pl_val (want_no rfl) (some 7) rfl (.iface 131 (.int .i64 2)) (fun _ => by kernel_rfl) ?_
                refine pl_nil ?_
                refine au_then ?_
                refine wp_ret ?_
                refine au_then_ret ?_
                refine au_block_ret ?_
                refine au_then_ret ?_
                refine au_then_ret ?_
                refine au_block_ret ?_
                refine au_then_ret ?_
                exact bodyPost_ret (v := .tuple #[.int .u64 0, .iface 131 (.int .i64 2)]) (results_tmp2 Tryz.results92 _ _ _ _ (by kernel_rfl) (by kernel_rfl)) (by kernel_rfl) ⟨.inr ⟨prs_none hj (pz_bad hx (dv_l (bt s j) (by omega) (by omega)) (by omega)), 0, 2, .inr rfl, rfl⟩, below_grown M.old⟩
        · skip
          refine pl_val (want_no rfl) (some 114) rfl (.bool true) (fun w => Eq.trans (b := .ok (.value (.bool (decide (48 ≤ (bt s j))))) w) (by kernel_rfl) (by rw [decide_eq_true (by omega)])) ?_
          refine pl_val (want_no rfl) (some 115) rfl (.bool true) (fun _ => by kernel_rfl) ?_
          refine pl_val (want_on 2 true rfl 115 rfl (by kernel_rfl)) (some 116) rfl (.int .u8 (bt s j)) (fun _ => by kernel_rfl) ?_
          by_cases c3 : 57 < (bt s j)
          · skip
            refine pl_val (want_on 2 true rfl 115 rfl (by kernel_rfl)) (some 117) rfl (.bool false) (fun w => Eq.trans (b := .ok (.value (.bool (decide ((bt s j) ≤ 57)))) w) (by kernel_rfl) (by rw [decide_eq_false (by omega)])) ?_
            refine pl_val (want_no rfl) (some 118) rfl (.bool false) (fun _ => by kernel_rfl) ?_
            refine pl_val (want_no rfl) (some 112) rfl (.bool false) (fun _ => by kernel_rfl) ?_
            refine pl_nil ?_
            refine au_then ?_
            refine wp_cond_false (by kernel_rfl) ?_
            refine wp_seq ?_
            refine rg_lit ?_
            refine pl_val (want_no rfl) (some 122) rfl (.int .u8 (bt s j)) (fun _ => by kernel_rfl) ?_
            refine pl_call M (want_no rfl) (some 123) rfl 112 #[.int .u8 (bt s j)] (.int .u8 (ob8 (bt s j) 32)) (fun _ => by kernel_rfl) (fun w M => c_lower (bt s j) w) ?_
            intro u2 M
            by_cases c4 : (ob8 (bt s j) 32) < 97
            · skip
              refine pl_val (want_no rfl) (some 124) rfl (.bool false) (fun w => Eq.trans (b := .ok (.value (.bool (decide (97 ≤ (ob8 (bt s j) 32))))) w) (by kernel_rfl) (by rw [decide_eq_false (by omega)])) ?_
              refine pl_val (want_no rfl) (some 125) rfl (.bool false) (fun _ => by kernel_rfl) ?_
              refine pl_skip (want_off 3 true rfl 125 rfl (by kernel_rfl)) (some 126) rfl ?_
              refine pl_skip (want_off 3 true rfl 125 rfl (by kernel_rfl)) (some 127) rfl ?_
              refine pl_skip (want_off 3 true rfl 125 rfl (by kernel_rfl)) (some 128) rfl ?_
              refine pl_val (want_no rfl) (some 129) rfl (.bool false) (fun _ => by kernel_rfl) ?_
              refine pl_val (want_no rfl) (some 121) rfl (.bool false) (fun _ => by kernel_rfl) ?_
              refine pl_nil ?_
              refine au_then ?_
              refine wp_cond_false (by kernel_rfl) ?_
              refine wp_seq ?_
              refine rg_lit ?_
              refine pl_val (want_no rfl) (some 105) rfl (.iface 131 (.int .i64 2)) (fun _ => by kernel_rfl) ?_
              refine pl_val (want_no rfl) (some 6) rfl (.int .u64 0) (fun _ => by kernel_rfl) ?_
              refine pl_val (want_no rfl) (some 7) rfl (.iface 131 (.int .i64 2)) (fun _ => by kernel_rfl) ?_
              refine pl_nil ?_
              refine au_then ?_
              refine wp_ret ?_
              refine au_block_ret ?_
              refine au_then_ret ?_
              refine au_block_ret ?_
              refine au_then_ret ?_
              refine au_then_ret ?_
              refine au_block_ret ?_
              refine au_then_ret ?_
              exact bodyPost_ret (v := .tuple #[.int .u64 0, .iface 131 (.int .i64 2)]) (results_tmp2 Tryz.results92 _ _ _ _ (by kernel_rfl) (by kernel_rfl)) (by kernel_rfl) ⟨.inr ⟨prs_none hj (pz_bad hx (dv_n (bt s j) (by omega) (by omega)) (by omega)), 0, 2, .inr rfl, rfl⟩, below_grown M.old⟩
            · skip
              refine pl_val (want_no rfl) (some 124) rfl (.bool true) (fun w => Eq.trans (b := .ok (.value (.bool (decide (97 ≤ (ob8 (bt s j) 32))))) w) (by kernel_rfl) (by rw [decide_eq_true (by omega)])) ?_
              refine pl_val (want_no rfl) (some 125) rfl (.bool true) (fun _ => by kernel_rfl) ?_
              refine pl_val (want_on 3 true rfl 125 rfl (by kernel_rfl)) (some 126) rfl (.int .u8 (bt s j)) (fun _ => by kernel_rfl) ?_
              refine pl_call M (want_on 3 true rfl 125 rfl (by kernel_rfl)) (some 127) rfl 112 #[.int .u8 (bt s j)] (.int .u8 (ob8 (bt s j) 32)) (fun _ => by kernel_rfl) (fun w M => c_lower (bt s j) w) ?_
              intro u3 M
              by_cases c5 : 122 < (ob8 (bt s j) 32)
              · skip
                refine pl_val (want_on 3 true rfl 125 rfl (by kernel_rfl)) (some 128) rfl (.bool false) (fun w => Eq.trans (b := .ok (.value (.bool (decide ((ob8 (bt s j) 32) ≤ 122)))) w) (by kernel_rfl) (by rw [decide_eq_false (by omega)])) ?_
                refine pl_val (want_no rfl) (some 129) rfl (.bool false) (fun _ => by kernel_rfl) ?_
                refine pl_val (want_no rfl) (some 121) rfl (.bool false) (fun _ => by kernel_rfl) ?_
                refine pl_nil ?_
                refine au_then ?_
                refine wp_cond_false (by kernel_rfl) ?_
                refine wp_seq ?_
                refine rg_lit ?_
                refine pl_val (want_no rfl) (some 105) rfl (.iface 131 (.int .i64 2)) (fun _ => by kernel_rfl) ?_
                refine pl_val (want_no rfl) (some 6) rfl (.int .u64 0) (fun _ => by kernel_rfl) ?_
                refine pl_val (want_no rfl) (some 7) rfl (.iface 131 (.int .i64 2)) (fun _ => by kernel_rfl) ?_
                refine pl_nil ?_
                refine au_then ?_
                refine wp_ret ?_
                refine au_block_ret ?_
                refine au_then_ret ?_
                refine au_block_ret ?_
                refine au_then_ret ?_
                refine au_then_ret ?_
                refine au_block_ret ?_
                refine au_then_ret ?_
                exact bodyPost_ret (v := .tuple #[.int .u64 0, .iface 131 (.int .i64 2)]) (results_tmp2 Tryz.results92 _ _ _ _ (by kernel_rfl) (by kernel_rfl)) (by kernel_rfl) ⟨.inr ⟨prs_none hj (pz_bad hx (dv_n (bt s j) (by omega) (by omega)) (by omega)), 0, 2, .inr rfl, rfl⟩, below_grown M.old⟩
              · skip
                refine pl_val (want_on 3 true rfl 125 rfl (by kernel_rfl)) (some 128) rfl (.bool true) (fun w => Eq.trans (b := .ok (.value (.bool (decide ((ob8 (bt s j) 32) ≤ 122)))) w) (by kernel_rfl) (by rw [decide_eq_true (by omega)])) ?_
                refine pl_val (want_no rfl) (some 129) rfl (.bool true) (fun _ => by kernel_rfl) ?_
                refine pl_val (want_no rfl) (some 121) rfl (.bool true) (fun _ => by kernel_rfl) ?_
                refine pl_nil ?_
                refine au_then ?_
                refine wp_cond_true (by kernel_rfl) ?_
                refine rg_lit ?_
                refine pl_val (want_no rfl) (some 130) rfl (.int .u8 (bt s j)) (fun _ => by kernel_rfl) ?_
                refine pl_call M (want_no rfl) (some 131) rfl 112 #[.int .u8 (bt s j)] (.int .u8 (ob8 (bt s j) 32)) (fun _ => by kernel_rfl) (fun w M => c_lower (bt s j) w) ?_
                intro u4 M
                refine pl_val (want_no rfl) (some 132) rfl (.int .u8 (ob8 (bt s j) 32 - 97)) (fun w => Eq.trans (b := .ok (.value (.int .u8 (cv .u8 (ob8 (bt s j) 32 - 97)))) w) (by kernel_rfl) (by rw [cv_u8]; congr 3; omega)) ?_
                refine pl_val (want_no rfl) (some 133) rfl (.int .u8 (ob8 (bt s j) 32 - 97 + 10)) (fun w => Eq.trans (b := .ok (.value (.int .u8 (cv .u8 (ob8 (bt s j) 32 - 97 + 10)))) w) (by kernel_rfl) (by rw [cv_u8]; congr 3; omega)) ?_
                refine pl_val (want_no rfl) (some 16) rfl (.int .u8 (ob8 (bt s j) 32 - 97 + 10)) (fun _ => by kernel_rfl) ?_
                refine pl_nil ?_
                refine au_block ?_
                refine au_then ?_
                refine wp_seq ?_
                refine wp_seq ?_
                refine rg_lit ?_
                refine pl_val (want_no rfl) (some 134) rfl (.int .u8 (ob8 (bt s j) 32 - 97 + 10)) (fun _ => by kernel_rfl) ?_
                refine pl_val (want_no rfl) (some 135) rfl (.int .i64 16) (fun _ => by kernel_rfl) ?_
                refine pl_val (want_no rfl) (some 136) rfl (.int .u8 16) (fun _ => by kernel_rfl) ?_
                by_cases c6 : (ob8 (bt s j) 32 - 97 + 10) < 16
                · skip
                  refine pl_val (want_no rfl) (some 137) rfl (.bool false) (fun w => Eq.trans (b := .ok (.value (.bool (decide (16 ≤ (ob8 (bt s j) 32 - 97 + 10))))) w) (by kernel_rfl) (by rw [decide_eq_false (by omega)])) ?_
                  refine pl_nil ?_
                  refine au_then ?_
                  refine wp_cond_false (by kernel_rfl) ?_
                  refine wp_skip ?_
                  refine au_then ?_
                  refine wp_seq ?_
                  refine wp_seq ?_
                  refine rg_lit ?_
                  refine pl_val (want_no rfl) (some 139) rfl (.int .u64 (pv 16 65535 s j)) (fun _ => by kernel_rfl) ?_
                  refine pl_val (want_no rfl) (some 140) rfl (.int .u64 1152921504606846976) (fun _ => by kernel_rfl) ?_
                  refine pl_val (want_no rfl) (some 141) rfl (.bool false) (fun w => Eq.trans (b := .ok (.value (.bool (decide (1152921504606846976 ≤ (pv 16 65535 s j))))) w) (by kernel_rfl) (by rw [decide_eq_false (by omega)])) ?_
                  refine pl_nil ?_
                  refine au_then ?_
                  refine wp_cond_false (by kernel_rfl) ?_
                  refine wp_skip ?_
                  refine au_then ?_
                  refine wp_seq ?_
                  refine rg_lit ?_
                  refine pl_val (want_no rfl) (some 144) rfl (.int .u64 (pv 16 65535 s j)) (fun _ => by kernel_rfl) ?_
                  refine pl_val (want_no rfl) (some 145) rfl (.int .i64 16) (fun _ => by kernel_rfl) ?_
                  refine pl_val (want_no rfl) (some 146) rfl (.int .u64 16) (fun _ => by kernel_rfl) ?_
                  refine pl_val (want_no rfl) (some 147) rfl (.int .u64 (pv 16 65535 s j * 16)) (fun w => Eq.trans (b := .ok (.value (.int .u64 (cv .u64 (pv 16 65535 s j * 16)))) w) (by kernel_rfl) (by rw [cv_u64]; congr 3; omega)) ?_
                  refine pl_val (want_no rfl) (some 13) rfl (.int .u64 (pv 16 65535 s j * 16)) (fun _ => by kernel_rfl) ?_
                  refine pl_nil ?_
                  refine au_then ?_
                  refine wp_seq ?_
                  refine rg_lit ?_
                  refine pl_val (want_no rfl) (some 148) rfl (.int .u64 (pv 16 65535 s j * 16)) (fun _ => by kernel_rfl) ?_
                  refine pl_val (want_no rfl) (some 149) rfl (.int .u8 (ob8 (bt s j) 32 - 97 + 10)) (fun _ => by kernel_rfl) ?_
                  refine pl_val (want_no rfl) (some 150) rfl (.int .u64 (ob8 (bt s j) 32 - 97 + 10)) (fun w => Eq.trans (b := .ok (.value (.int .u64 (cv .u64 (ob8 (bt s j) 32 - 97 + 10)))) w) (by kernel_rfl) (by rw [cv_u64]; congr 3; omega)) ?_
                  refine pl_val (want_no rfl) (some 151) rfl (.int .u64 (pv 16 65535 s j * 16 + (ob8 (bt s j) 32 - 97 + 10))) (fun w => Eq.trans (b := .ok (.value (.int .u64 (cv .u64 (pv 16 65535 s j * 16 + (ob8 (bt s j) 32 - 97 + 10))))) w) (by kernel_rfl) (by rw [cv_u64]; congr 3; omega)) ?_
                  refine pl_val (want_no rfl) (some 17) rfl (.int .u64 (pv 16 65535 s j * 16 + (ob8 (bt s j) 32 - 97 + 10))) (fun _ => by kernel_rfl) ?_
                  refine pl_nil ?_
                  refine au_then ?_
                  refine wp_seq ?_
                  refine wp_seq ?_
                  refine rg_lit ?_
                  refine pl_val (want_no rfl) (some 152) rfl (.int .u64 (pv 16 65535 s j * 16 + (ob8 (bt s j) 32 - 97 + 10))) (fun _ => by kernel_rfl) ?_
                  refine pl_val (want_no rfl) (some 153) rfl (.int .u64 (pv 16 65535 s j * 16)) (fun _ => by kernel_rfl) ?_
                  refine pl_val (want_no rfl) (some 154) rfl (.bool false) (fun w => Eq.trans (b := .ok (.value (.bool (decide ((pv 16 65535 s j * 16 + (ob8 (bt s j) 32 - 97 + 10)) < (pv 16 65535 s j * 16))))) w) (by kernel_rfl) (by rw [decide_eq_false (by omega)])) ?_
                  refine pl_val (want_no rfl) (some 155) rfl (.bool false) (fun _ => by kernel_rfl) ?_
                  refine pl_val (want_on 3 false rfl 155 rfl (by kernel_rfl)) (some 156) rfl (.int .u64 (pv 16 65535 s j * 16 + (ob8 (bt s j) 32 - 97 + 10))) (fun _ => by kernel_rfl) ?_
                  refine pl_val (want_on 3 false rfl 155 rfl (by kernel_rfl)) (some 157) rfl (.int .u64 65535) (fun _ => by kernel_rfl) ?_
                  by_cases c7 : 65535 < (pv 16 65535 s j * 16 + (ob8 (bt s j) 32 - 97 + 10))
                  · skip
                    refine pl_val (want_on 3 false rfl 155 rfl (by kernel_rfl)) (some 158) rfl (.bool true) (fun w => Eq.trans (b := .ok (.value (.bool (decide (65535 < (pv 16 65535 s j * 16 + (ob8 (bt s j) 32 - 97 + 10)))))) w) (by kernel_rfl) (by rw [decide_eq_true (c7)])) ?_
                    refine pl_val (want_no rfl) (some 159) rfl (.bool true) (fun _ => by kernel_rfl) ?_
                    refine pl_nil ?_
                    refine au_then ?_
                    refine wp_cond_true (by kernel_rfl) ?_
                    refine wp_seq ?_
                    refine rg_lit ?_
                    refine pl_val (want_no rfl) (some 160) rfl (.int .u64 65535) (fun _ => by kernel_rfl) ?_
                    refine pl_val (want_no rfl) (some 161) rfl (.iface 131 (.int .i64 1)) (fun _ => by kernel_rfl) ?_
                    refine pl_val (want_no rfl) (some 6) rfl (.int .u64 65535) (fun _ => by kernel_rfl) ?_
                    refine pl_val (want_no rfl) (some 7) rfl (.iface 131 (.int .i64 1)) (fun _ => by kernel_rfl) ?_
                    refine pl_nil ?_
                    refine au_then ?_
                    refine wp_ret ?_
                    refine au_then_ret ?_
                    refine au_block_ret ?_
                    refine au_then_ret ?_
                    refine au_then_ret ?_
                    refine au_block_ret ?_
                    refine au_then_ret ?_
                    exact bodyPost_ret (v := .tuple #[.int .u64 65535, .iface 131 (.int .i64 1)]) (results_tmp2 Tryz.results92 _ _ _ _ (by kernel_rfl) (by kernel_rfl)) (by kernel_rfl) ⟨.inr ⟨prs_none hj (pz_big hx (dv_l (bt s j) (by omega) (by omega)) (by omega) (by omega)), 65535, 1, .inl rfl, rfl⟩, below_grown M.old⟩
                  · skip
                    refine pl_val (want_on 3 false rfl 155 rfl (by kernel_rfl)) (some 158) rfl (.bool false) (fun w => Eq.trans (b := .ok (.value (.bool (decide (65535 < (pv 16 65535 s j * 16 + (ob8 (bt s j) 32 - 97 + 10)))))) w) (by kernel_rfl) (by rw [decide_eq_false (c7)])) ?_
                    refine pl_val (want_no rfl) (some 159) rfl (.bool false) (fun _ => by kernel_rfl) ?_
                    refine pl_nil ?_
                    refine au_then ?_
                    refine wp_cond_false (by kernel_rfl) ?_
                    refine wp_skip ?_
                    refine au_then ?_
                    refine rg_lit ?_
                    refine pl_val (want_no rfl) (some 162) rfl (.int .u64 (pv 16 65535 s j * 16 + (ob8 (bt s j) 32 - 97 + 10))) (fun _ => by kernel_rfl) ?_
                    have hpy := pz_ok hx (dv_l (bt s j) (by omega) (by omega)) (by omega) (by omega)
                    have hpv : pv 16 65535 s (j + 1) = pv 16 65535 s j * 16 + (ob8 (bt s j) 32 - 97 + 10) := by unfold pv; rw [hpy]; rfl
                    have hpz : pz 16 65535 s (j + 1) = some (pv 16 65535 s (j + 1)) := by rw [hpv]; exact hpy
                    refine pl_val (want_no rfl) (some 13) rfl (.int .u64 (pv 16 65535 s (j + 1))) (fun w => Eq.trans (b := .ok (.value (.int .u64 (pv 16 65535 s j * 16 + (ob8 (bt s j) 32 - 97 + 10)))) w) (by kernel_rfl) (by rw [hpv])) ?_
                    refine pl_nil ?_
                    refine au_block ?_
                    refine au_then ?_
                    refine rg_lit ?_
                    refine pl_val (want_no rfl) (some 163) rfl (.int .i64 ((j + 1 : Nat) : Int)) (fun w => Eq.trans (b := .ok (.value (.int .i64 (IntKind.wrap .i64 ((j : Int) + 1)))) w) (by kernel_rfl) (by rw [wrap64 (by omega) (by omega)]; congr 3)) ?_
                    refine pl_val (want_no rfl) (some 101) rfl (.int .i64 ((j + 1 : Nat) : Int)) (fun _ => by kernel_rfl) ?_
                    refine pl_nil ?_
                    refine au_then ?_
                    exact ⟨fun k_ => ([v1 6, v1 7, undef, undef, undef, undef, undef, undef, undef, .int .u8 (bt s j), .int .u8 (ob8 (bt s j) 32 - 97 + 10), .int .u64 (pv 16 65535 s j * 16 + (ob8 (bt s j) 32 - 97 + 10)), undef, undef, undef, undef, undef, undef, undef, undef, undef, undef, undef, undef, undef, undef, undef, undef, undef, undef, undef, undef, undef, undef, undef, undef, undef, undef, undef, undef, undef, undef, undef, undef, undef, undef, undef, undef, undef, undef, undef, undef, undef, undef, undef, undef, undef, undef, undef, undef, undef, undef, undef, undef, undef, undef, undef, undef, undef, undef, undef, undef, undef, undef, undef, undef, undef, undef, undef, undef, undef, undef, undef, undef, undef, undef, undef, undef, undef, undef, undef, undef, undef, undef, undef, undef, .bool true, .pointer (some ⟨g1, j, none⟩), .int .u8 (bt s j), v1 105, .bool false, .int .u8 (bt s j), .bool false, .bool false, undef, .bool false, .bool false, .int .u8 (bt s j), .bool true, .bool true, .int .u8 (bt s j), .bool false, .bool false, v1 119, v1 120, .bool true, .int .u8 (bt s j), .int .u8 (ob8 (bt s j) 32), .bool true, .bool true, .int .u8 (bt s j), .int .u8 (ob8 (bt s j) 32), .bool true, .bool true, .int .u8 (bt s j), .int .u8 (ob8 (bt s j) 32), .int .u8 (ob8 (bt s j) 32 - 97), .int .u8 (ob8 (bt s j) 32 - 97 + 10), .int .u8 (ob8 (bt s j) 32 - 97 + 10), .int .i64 16, .int .u8 16, .bool false, v1 138, .int .u64 (pv 16 65535 s j), .int .u64 1152921504606846976, .bool false, v1 142, v1 143, .int .u64 (pv 16 65535 s j), .int .i64 16, .int .u64 16, .int .u64 (pv 16 65535 s j * 16), .int .u64 (pv 16 65535 s j * 16), .int .u8 (ob8 (bt s j) 32 - 97 + 10), .int .u64 (ob8 (bt s j) 32 - 97 + 10), .int .u64 (pv 16 65535 s j * 16 + (ob8 (bt s j) 32 - 97 + 10)), .int .u64 (pv 16 65535 s j * 16 + (ob8 (bt s j) 32 - 97 + 10)), .int .u64 (pv 16 65535 s j * 16), .bool false, .bool false, .int .u64 (pv 16 65535 s j * 16 + (ob8 (bt s j) 32 - 97 + 10)), .int .u64 65535, .bool false, .bool false, v1 160, v1 161, .int .u64 (pv 16 65535 s j * 16 + (ob8 (bt s j) 32 - 97 + 10)), .int .i64 ((j + 1 : Nat) : Int)] : List Value).getD (k_ - 6) undef, by kernel_rfl, M, hpz⟩
                · skip
                  refine pl_val (want_no rfl) (some 137) rfl (.bool true) (fun w => Eq.trans (b := .ok (.value (.bool (decide (16 ≤ (ob8 (bt s j) 32 - 97 + 10))))) w) (by kernel_rfl) (by rw [decide_eq_true (by omega)])) ?_
                  refine pl_nil ?_
                  refine au_then ?_
                  refine wp_cond_true (by kernel_rfl) ?_
                  refine wp_seq ?_
                  refine rg_lit ?_
                  refine pl_val (want_no rfl) (some 138) rfl (.iface 131 (.int .i64 2)) (fun _ => by kernel_rfl) ?_
                  refine pl_val (want_no rfl) (some 6) rfl (.int .u64 0) (fun _ => by kernel_rfl) ?_
                  refine pl_val (want_no rfl) (some 7) rfl (.iface 131 (.int .i64 2)) (fun _ => by kernel_rfl) ?_
                  refine pl_nil ?_
                  refine au_then ?_
                  refine wp_ret ?_
                  refine au_then_ret ?_
                  refine au_block_ret ?_
                  refine au_then_ret ?_
                  refine au_then_ret ?_
                  refine au_block_ret ?_
                  refine au_then_ret ?_
                  exact bodyPost_ret (v := .tuple #[.int .u64 0, .iface 131 (.int .i64 2)]) (results_tmp2 Tryz.results92 _ _ _ _ (by kernel_rfl) (by kernel_rfl)) (by kernel_rfl) ⟨.inr ⟨prs_none hj (pz_bad hx (dv_l (bt s j) (by omega) (by omega)) (by omega)), 0, 2, .inr rfl, rfl⟩, below_grown M.old⟩
          · skip
            refine pl_val (want_on 2 true rfl 115 rfl (by kernel_rfl)) (some 117) rfl (.bool true) (fun w => Eq.trans (b := .ok (.value (.bool (decide ((bt s j) ≤ 57)))) w) (by kernel_rfl) (by rw [decide_eq_true (by omega)])) ?_
            refine pl_val (want_no rfl) (some 118) rfl (.bool true) (fun _ => by kernel_rfl) ?_
            refine pl_val (want_no rfl) (some 112) rfl (.bool true) (fun _ => by kernel_rfl) ?_
            refine pl_nil ?_
            refine au_then ?_
            refine wp_cond_true (by kernel_rfl) ?_
            refine rg_lit ?_
            refine pl_val (want_no rfl) (some 119) rfl (.int .u8 (bt s j)) (fun _ => by kernel_rfl) ?_
            refine pl_val (want_no rfl) (some 120) rfl (.int .u8 (bt s j - 48)) (fun w => Eq.trans (b := .ok (.value (.int .u8 (cv .u8 (bt s j - 48)))) w) (by kernel_rfl) (by rw [cv_u8]; congr 3; omega)) ?_
            refine pl_val (want_no rfl) (some 16) rfl (.int .u8 (bt s j - 48)) (fun _ => by kernel_rfl) ?_
            refine pl_nil ?_
            refine au_block ?_
            refine au_then ?_
            refine wp_seq ?_
            refine wp_seq ?_
            refine rg_lit ?_
            refine pl_val (want_no rfl) (some 134) rfl (.int .u8 (bt s j - 48)) (fun _ => by kernel_rfl) ?_
            refine pl_val (want_no rfl) (some 135) rfl (.int .i64 16) (fun _ => by kernel_rfl) ?_
            refine pl_val (want_no rfl) (some 136) rfl (.int .u8 16) (fun _ => by kernel_rfl) ?_
            by_cases c4 : (bt s j - 48) < 16
            · skip
              refine pl_val (want_no rfl) (some 137) rfl (.bool false) (fun w => Eq.trans (b := .ok (.value (.bool (decide (16 ≤ (bt s j - 48))))) w) (by kernel_rfl) (by rw [decide_eq_false (by omega)])) ?_
              refine pl_nil ?_
              refine au_then ?_
              refine wp_cond_false (by kernel_rfl) ?_
              refine wp_skip ?_
              refine au_then ?_
              refine wp_seq ?_
              refine wp_seq ?_
              refine rg_lit ?_
              refine pl_val (want_no rfl) (some 139) rfl (.int .u64 (pv 16 65535 s j)) (fun _ => by kernel_rfl) ?_
              refine pl_val (want_no rfl) (some 140) rfl (.int .u64 1152921504606846976) (fun _ => by kernel_rfl) ?_
              refine pl_val (want_no rfl) (some 141) rfl (.bool false) (fun w => Eq.trans (b := .ok (.value (.bool (decide (1152921504606846976 ≤ (pv 16 65535 s j))))) w) (by kernel_rfl) (by rw [decide_eq_false (by omega)])) ?_
              refine pl_nil ?_
              refine au_then ?_
              refine wp_cond_false (by kernel_rfl) ?_
              refine wp_skip ?_
              refine au_then ?_
              refine wp_seq ?_
              refine rg_lit ?_
              refine pl_val (want_no rfl) (some 144) rfl (.int .u64 (pv 16 65535 s j)) (fun _ => by kernel_rfl) ?_
              refine pl_val (want_no rfl) (some 145) rfl (.int .i64 16) (fun _ => by kernel_rfl) ?_
              refine pl_val (want_no rfl) (some 146) rfl (.int .u64 16) (fun _ => by kernel_rfl) ?_
              refine pl_val (want_no rfl) (some 147) rfl (.int .u64 (pv 16 65535 s j * 16)) (fun w => Eq.trans (b := .ok (.value (.int .u64 (cv .u64 (pv 16 65535 s j * 16)))) w) (by kernel_rfl) (by rw [cv_u64]; congr 3; omega)) ?_
              refine pl_val (want_no rfl) (some 13) rfl (.int .u64 (pv 16 65535 s j * 16)) (fun _ => by kernel_rfl) ?_
              refine pl_nil ?_
              refine au_then ?_
              refine wp_seq ?_
              refine rg_lit ?_
              refine pl_val (want_no rfl) (some 148) rfl (.int .u64 (pv 16 65535 s j * 16)) (fun _ => by kernel_rfl) ?_
              refine pl_val (want_no rfl) (some 149) rfl (.int .u8 (bt s j - 48)) (fun _ => by kernel_rfl) ?_
              refine pl_val (want_no rfl) (some 150) rfl (.int .u64 (bt s j - 48)) (fun w => Eq.trans (b := .ok (.value (.int .u64 (cv .u64 (bt s j - 48)))) w) (by kernel_rfl) (by rw [cv_u64]; congr 3; omega)) ?_
              refine pl_val (want_no rfl) (some 151) rfl (.int .u64 (pv 16 65535 s j * 16 + (bt s j - 48))) (fun w => Eq.trans (b := .ok (.value (.int .u64 (cv .u64 (pv 16 65535 s j * 16 + (bt s j - 48))))) w) (by kernel_rfl) (by rw [cv_u64]; congr 3; omega)) ?_
              refine pl_val (want_no rfl) (some 17) rfl (.int .u64 (pv 16 65535 s j * 16 + (bt s j - 48))) (fun _ => by kernel_rfl) ?_
              refine pl_nil ?_
              refine au_then ?_
              refine wp_seq ?_
              refine wp_seq ?_
              refine rg_lit ?_
              refine pl_val (want_no rfl) (some 152) rfl (.int .u64 (pv 16 65535 s j * 16 + (bt s j - 48))) (fun _ => by kernel_rfl) ?_
              refine pl_val (want_no rfl) (some 153) rfl (.int .u64 (pv 16 65535 s j * 16)) (fun _ => by kernel_rfl) ?_
              refine pl_val (want_no rfl) (some 154) rfl (.bool false) (fun w => Eq.trans (b := .ok (.value (.bool (decide ((pv 16 65535 s j * 16 + (bt s j - 48)) < (pv 16 65535 s j * 16))))) w) (by kernel_rfl) (by rw [decide_eq_false (by omega)])) ?_
              refine pl_val (want_no rfl) (some 155) rfl (.bool false) (fun _ => by kernel_rfl) ?_
              refine pl_val (want_on 3 false rfl 155 rfl (by kernel_rfl)) (some 156) rfl (.int .u64 (pv 16 65535 s j * 16 + (bt s j - 48))) (fun _ => by kernel_rfl) ?_
              refine pl_val (want_on 3 false rfl 155 rfl (by kernel_rfl)) (some 157) rfl (.int .u64 65535) (fun _ => by kernel_rfl) ?_
              by_cases c5 : 65535 < (pv 16 65535 s j * 16 + (bt s j - 48))
              · skip
                refine pl_val (want_on 3 false rfl 155 rfl (by kernel_rfl)) (some 158) rfl (.bool true) (fun w => Eq.trans (b := .ok (.value (.bool (decide (65535 < (pv 16 65535 s j * 16 + (bt s j - 48)))))) w) (by kernel_rfl) (by rw [decide_eq_true (c5)])) ?_
                refine pl_val (want_no rfl) (some 159) rfl (.bool true) (fun _ => by kernel_rfl) ?_
                refine pl_nil ?_
                refine au_then ?_
                refine wp_cond_true (by kernel_rfl) ?_
                refine wp_seq ?_
                refine rg_lit ?_
                refine pl_val (want_no rfl) (some 160) rfl (.int .u64 65535) (fun _ => by kernel_rfl) ?_
                refine pl_val (want_no rfl) (some 161) rfl (.iface 131 (.int .i64 1)) (fun _ => by kernel_rfl) ?_
                refine pl_val (want_no rfl) (some 6) rfl (.int .u64 65535) (fun _ => by kernel_rfl) ?_
                refine pl_val (want_no rfl) (some 7) rfl (.iface 131 (.int .i64 1)) (fun _ => by kernel_rfl) ?_
                refine pl_nil ?_
                refine au_then ?_
                refine wp_ret ?_
                refine au_then_ret ?_
                refine au_block_ret ?_
                refine au_then_ret ?_
                refine au_then_ret ?_
                refine au_block_ret ?_
                refine au_then_ret ?_
                exact bodyPost_ret (v := .tuple #[.int .u64 65535, .iface 131 (.int .i64 1)]) (results_tmp2 Tryz.results92 _ _ _ _ (by kernel_rfl) (by kernel_rfl)) (by kernel_rfl) ⟨.inr ⟨prs_none hj (pz_big hx (dv_d (bt s j) (by omega)) (by omega) (by omega)), 65535, 1, .inl rfl, rfl⟩, below_grown M.old⟩
              · skip
                refine pl_val (want_on 3 false rfl 155 rfl (by kernel_rfl)) (some 158) rfl (.bool false) (fun w => Eq.trans (b := .ok (.value (.bool (decide (65535 < (pv 16 65535 s j * 16 + (bt s j - 48)))))) w) (by kernel_rfl) (by rw [decide_eq_false (c5)])) ?_
                refine pl_val (want_no rfl) (some 159) rfl (.bool false) (fun _ => by kernel_rfl) ?_
                refine pl_nil ?_
                refine au_then ?_
                refine wp_cond_false (by kernel_rfl) ?_
                refine wp_skip ?_
                refine au_then ?_
                refine rg_lit ?_
                refine pl_val (want_no rfl) (some 162) rfl (.int .u64 (pv 16 65535 s j * 16 + (bt s j - 48))) (fun _ => by kernel_rfl) ?_
                have hpy := pz_ok hx (dv_d (bt s j) (by omega)) (by omega) (by omega)
                have hpv : pv 16 65535 s (j + 1) = pv 16 65535 s j * 16 + (bt s j - 48) := by unfold pv; rw [hpy]; rfl
                have hpz : pz 16 65535 s (j + 1) = some (pv 16 65535 s (j + 1)) := by rw [hpv]; exact hpy
                refine pl_val (want_no rfl) (some 13) rfl (.int .u64 (pv 16 65535 s (j + 1))) (fun w => Eq.trans (b := .ok (.value (.int .u64 (pv 16 65535 s j * 16 + (bt s j - 48)))) w) (by kernel_rfl) (by rw [hpv])) ?_
                refine pl_nil ?_
                refine au_block ?_
                refine au_then ?_
                refine rg_lit ?_
                refine pl_val (want_no rfl) (some 163) rfl (.int .i64 ((j + 1 : Nat) : Int)) (fun w => Eq.trans (b := .ok (.value (.int .i64 (IntKind.wrap .i64 ((j : Int) + 1)))) w) (by kernel_rfl) (by rw [wrap64 (by omega) (by omega)]; congr 3)) ?_
                refine pl_val (want_no rfl) (some 101) rfl (.int .i64 ((j + 1 : Nat) : Int)) (fun _ => by kernel_rfl) ?_
                refine pl_nil ?_
                refine au_then ?_
                exact ⟨fun k_ => ([v1 6, v1 7, undef, undef, undef, undef, undef, undef, undef, .int .u8 (bt s j), .int .u8 (bt s j - 48), .int .u64 (pv 16 65535 s j * 16 + (bt s j - 48)), undef, undef, undef, undef, undef, undef, undef, undef, undef, undef, undef, undef, undef, undef, undef, undef, undef, undef, undef, undef, undef, undef, undef, undef, undef, undef, undef, undef, undef, undef, undef, undef, undef, undef, undef, undef, undef, undef, undef, undef, undef, undef, undef, undef, undef, undef, undef, undef, undef, undef, undef, undef, undef, undef, undef, undef, undef, undef, undef, undef, undef, undef, undef, undef, undef, undef, undef, undef, undef, undef, undef, undef, undef, undef, undef, undef, undef, undef, undef, undef, undef, undef, undef, undef, .bool true, .pointer (some ⟨g1, j, none⟩), .int .u8 (bt s j), v1 105, .bool false, .int .u8 (bt s j), .bool false, .bool false, undef, .bool false, .bool true, .int .u8 (bt s j), .bool true, .bool true, .int .u8 (bt s j), .bool true, .bool true, .int .u8 (bt s j), .int .u8 (bt s j - 48), v1 121, v1 122, v1 123, v1 124, v1 125, v1 126, v1 127, v1 128, v1 129, v1 130, v1 131, v1 132, v1 133, .int .u8 (bt s j - 48), .int .i64 16, .int .u8 16, .bool false, v1 138, .int .u64 (pv 16 65535 s j), .int .u64 1152921504606846976, .bool false, v1 142, v1 143, .int .u64 (pv 16 65535 s j), .int .i64 16, .int .u64 16, .int .u64 (pv 16 65535 s j * 16), .int .u64 (pv 16 65535 s j * 16), .int .u8 (bt s j - 48), .int .u64 (bt s j - 48), .int .u64 (pv 16 65535 s j * 16 + (bt s j - 48)), .int .u64 (pv 16 65535 s j * 16 + (bt s j - 48)), .int .u64 (pv 16 65535 s j * 16), .bool false, .bool false, .int .u64 (pv 16 65535 s j * 16 + (bt s j - 48)), .int .u64 65535, .bool false, .bool false, v1 160, v1 161, .int .u64 (pv 16 65535 s j * 16 + (bt s j - 48)), .int .i64 ((j + 1 : Nat) : Int)] : List Value).getD (k_ - 6) undef, by kernel_rfl, M, hpz⟩
            · skip
              refine pl_val (want_no rfl) (some 137) rfl (.bool true) (fun w => Eq.trans (b := .ok (.value (.bool (decide (16 ≤ (bt s j - 48))))) w) (by kernel_rfl) (by rw [decide_eq_true (by omega)])) ?_
              refine pl_nil ?_
              refine au_then ?_
              refine wp_cond_true (by kernel_rfl) ?_
              refine wp_seq ?_
              refine rg_lit ?_
              refine pl_val (want_no rfl) (some 138) rfl (.iface 131 (.int .i64 2)) (fun _ => by kernel_rfl) ?_
              refine pl_val (want_no rfl) (some 6) rfl (.int .u64 0) (fun _ => by kernel_rfl) ?_
              refine pl_val (want_no rfl) (some 7) rfl (.iface 131 (.int .i64 2)) (fun _ => by kernel_rfl) ?_
              refine pl_nil ?_
              refine au_then ?_
              refine wp_ret ?_
              refine au_then_ret ?_
              refine au_block_ret ?_
              refine au_then_ret ?_
              refine au_then_ret ?_
              refine au_block_ret ?_
              refine au_then_ret ?_
              exact bodyPost_ret (v := .tuple #[.int .u64 0, .iface 131 (.int .i64 2)]) (results_tmp2 Tryz.results92 _ _ _ _ (by kernel_rfl) (by kernel_rfl)) (by kernel_rfl) ⟨.inr ⟨prs_none hj (pz_bad hx (dv_d (bt s j) (by omega)) (by omega)), 0, 2, .inr rfl, rfl⟩, below_grown M.old⟩
    · intro a u0 hI
      obtain ⟨v1, rfl, M, hx⟩ := hI
      refine wp_seq ?_
      refine rg_lit ?_
      refine pl_val (want_no rfl) (some 102) rfl (.bool false) (fun w => Eq.trans (b := .ok (.value (.bool (decide (((s.size : Nat) : Int) < ((s.size : Nat) : Int))))) w) (by kernel_rfl) (by rw [decide_eq_false (by omega)])) ?_
      refine pl_nil ?_
      refine au_then ?_
      refine wp_seq ?_
      refine wp_cond_false (by kernel_rfl) ?_
      refine wp_exit ?_
      refine au_then_exit ?_
      refine au_then_exit ?_
      refine au_block_exit ?_
      refine au_then ?_
      refine wp_seq ?_
      refine wp_seq ?_
      refine rg_lit ?_
      refine pl_val (want_no rfl) (some 164) rfl (.bool false) (fun _ => by kernel_rfl) ?_
      refine pl_val (want_no rfl) (some 165) rfl (.bool false) (fun _ => by kernel_rfl) ?_
      refine pl_skip (want_off 1 true rfl 165 rfl (by kernel_rfl)) (some 166) rfl ?_
      refine pl_skip (want_off 1 true rfl 165 rfl (by kernel_rfl)) (some 167) rfl ?_
      refine pl_skip (want_off 1 true rfl 165 rfl (by kernel_rfl)) (some 168) rfl ?_
      refine pl_val (want_no rfl) (some 169) rfl (.bool false) (fun _ => by kernel_rfl) ?_
      refine pl_nil ?_
      refine au_then ?_
      refine wp_cond_false (by kernel_rfl) ?_
      refine wp_skip ?_
      refine au_then ?_
      refine wp_seq ?_
      refine rg_lit ?_
      refine pl_val (want_no rfl) (some 171) rfl (.int .u64 (pv 16 65535 s (s.size))) (fun _ => by kernel_rfl) ?_
      refine pl_val (want_no rfl) (some 6) rfl (.int .u64 (pv 16 65535 s (s.size))) (fun _ => by kernel_rfl) ?_
      refine pl_val (want_no rfl) (some 7) rfl (.nilIface) (fun _ => by kernel_rfl) ?_
      refine pl_nil ?_
      refine au_then ?_
      refine wp_ret ?_
      exact bodyPost_ret (v := .tuple #[.int .u64 (pv 16 65535 s (s.size)), .nilIface]) (results_tmp2 Tryz.results92 _ _ _ _ (by kernel_rfl) (by kernel_rfl)) (by kernel_rfl) ⟨.inl ⟨(pv 16 65535 s (s.size)), by unfold prs; rw [if_neg c0]; exact hx, rfl⟩, below_grown M.old⟩

theorem c_toErr (fn s : ByteArray) (b bits k : Int) (hk : k = 1 ∨ k = 2) (hs : s.size ≤ 1000) (w : World) (hL : Laid w) :
    Calls Tryz.prog 93 #[.string fn, .string s, .int .i64 b, .int .i64 bits, .iface 131 (.int .i64 k)] w fun r w' => (∃ N, r = .returned (.iface 133 (.pointer (some ⟨N, 0, none⟩)))) ∧ Below w.heap.size w w' := by
  rcases hk with rfl | rfl
  · obtain ⟨t, p, h⟩ := hL.rg
    exact (Any.strconv_toError_range laysC245 fn s b bits _ w (by omega) h (.inr ⟨t, p, rfl⟩)).mono fun e w' ⟨n, he, _, _, hb⟩ => ⟨⟨n, he⟩, hb⟩
  · obtain ⟨t, p, h⟩ := hL.sy
    exact (Any.strconv_toError_syntax laysC245 fn s b bits _ w (by omega) h (.inr ⟨t, p, rfl⟩)).mono fun e w' ⟨n, he, _, _, hb⟩ => ⟨⟨n, he⟩, hb⟩
section
variable {P : Program} {ops : Array Oper} {rest : List Oper} {o : Oper} {a : Act} {w : World} {c : Ctx} {L : List Blk} {Q : Exit → Act → World → Prop}
/-- A call that changes nothing that is there; of its answer something is told. -/
theorem pl_callx {α : Type} (M : Mem c L w) (hw : Region.wanted o (yielded ops a.tmps) = true) (d : Option Tmp) (hd : o.dst = d) (f : FuncId) (args : Array Value) (v : α → Value) (K : α → Prop) (hrun : ∀ w, (execOp a.eval o).run P w = .ok (.enter f args) w)
    (hc : ∀ w, Mem c L w → Calls P f args w fun e w' => (∃ x, K x ∧ e = .returned (v x)) ∧ Below w.heap.size w w') (h : ∀ x w', K x → Mem c L w' → PL P ops Q rest (a.put d (v x)) w') : PL P ops Q (o :: rest) a w :=
  pl_callq hw d hd f args hrun ((hc w M).mono fun _ w' ⟨⟨x, hk, he⟩, hb⟩ => ⟨v x, he, h x w' hk (M.keep hb)⟩)
end
theorem c_ipu10S (s : ByteArray) (hs : s.size ≤ 1000) (x : Int) (h : prs 10 255 s = some x) (w : World) (hL : Laid w) : Calls Tryz.prog 92 #[.string s, .int .i64 10, .int .i64 8] w fun r w' => r = .returned (.tuple #[.int .u64 x, .nilIface]) ∧ Below w.heap.size w w' :=
  (c_ipu10 s hs w hL).mono fun e w' ⟨h1, h2⟩ => ⟨(by
    rcases h1 with ⟨y, hy, he⟩ | ⟨hn, _⟩
    · rw [h] at hy
      cases hy
      exact he
    · rw [h] at hn
      cases hn), h2⟩
theorem c_ipu10N (s : ByteArray) (hs : s.size ≤ 1000) (h : prs 10 255 s = none) (w : World) (hL : Laid w) : Calls Tryz.prog 92 #[.string s, .int .i64 10, .int .i64 8] w fun r w' => (∃ x : Int × Int, (x.2 = 1 ∨ x.2 = 2) ∧ r = .returned (.tuple #[.int .u64 x.1, .iface 131 (.int .i64 x.2)])) ∧ Below w.heap.size w w' :=
  (c_ipu10 s hs w hL).mono fun e w' ⟨h1, h2⟩ => ⟨(by
    rcases h1 with ⟨y, hy, he⟩ | ⟨_, y, k, hk, he⟩
    · rw [h] at hy
      cases hy
    · exact ⟨(y, k), hk, he⟩), h2⟩
set_option maxRecDepth 100000 in
set_option maxHeartbeats 4000000 in
set_option linter.unusedSimpArgs false in
theorem c_pu10S (s : ByteArray) (hs : s.size ≤ 1000) (x : Int) (h : prs 10 255 s = some x) (w : World) (hL : Laid w)  :
    Calls Tryz.prog 72 #[.string s, .int .i64 10, .int .i64 8] w fun r w' => r = .returned (.tuple #[.int .u64 x, .nilIface]) ∧ Below w.heap.size w w' := by
  go_enter Tryz.func72, Tryz.ntmps72
  have M := Mem.start hL
  refine wp_seq ?_
  refine rg_lit ?_
  refine pl_val (want_no rfl) (some 6) rfl (.int .u64 0) (fun _ => by kernel_rfl) ?_
  refine pl_val (want_no rfl) (some 7) rfl (.nilIface) (fun _ => by kernel_rfl) ?_
  refine pl_nil ?_
  refine au_then ?_
  refine wp_seq ?_
  refine rg_lit ?_
  refine pl_val (want_no rfl) (some 11) rfl (.string s) (fun _ => by kernel_rfl) ?_
  refine pl_val (want_no rfl) (some 12) rfl (.int .i64 10) (fun _ => by kernel_rfl) ?_
  refine pl_val (want_no rfl) (some 13) rfl (.int .i64 8) (fun _ => by kernel_rfl) ?_
  refine pl_call M (want_no rfl) (some 14) rfl 92 #[.string s, .int .i64 10, .int .i64 8] (.tuple #[.int .u64 x, .nilIface]) (fun _ => by kernel_rfl) (fun w M => c_ipu10S s hs x h w M.laid) ?_
  intro u1 M
  refine pl_val (want_no rfl) (some 10) rfl (.tuple #[.int .u64 x, .nilIface]) (fun _ => by kernel_rfl) ?_
  refine pl_val (want_no rfl) (some 15) rfl (.int .u64 x) (fun _ => by kernel_rfl) ?_
  refine pl_val (want_no rfl) (some 16) rfl (.nilIface) (fun _ => by kernel_rfl) ?_
  refine pl_val (want_no rfl) (some 8) rfl (.int .u64 x) (fun _ => by kernel_rfl) ?_
  refine pl_val (want_no rfl) (some 9) rfl (.nilIface) (fun _ => by kernel_rfl) ?_
  refine pl_nil ?_
  refine au_then ?_
  refine wp_seq ?_
  refine wp_seq ?_
  refine rg_lit ?_
  refine pl_val (want_no rfl) (some 17) rfl (.nilIface) (fun _ => by kernel_rfl) ?_
  refine pl_val (want_no rfl) (some 18) rfl (.bool false) (fun _ => by kernel_rfl) ?_
  refine pl_nil ?_
  refine au_then ?_
  refine wp_cond_false (by kernel_rfl) ?_
  refine wp_skip ?_
  refine au_then ?_
  refine wp_seq ?_
  refine rg_lit ?_
  refine pl_val (want_no rfl) (some 25) rfl (.int .u64 x) (fun _ => by kernel_rfl) ?_
  refine pl_val (want_no rfl) (some 6) rfl (.int .u64 x) (fun _ => by kernel_rfl) ?_
  refine pl_val (want_no rfl) (some 7) rfl (.nilIface) (fun _ => by kernel_rfl) ?_
  refine pl_nil ?_
  refine au_then ?_
  refine wp_ret ?_
  exact bodyPost_ret (v := .tuple #[.int .u64 x, .nilIface]) (results_tmp2 Tryz.results72 _ _ _ _ (by kernel_rfl) (by kernel_rfl)) (by kernel_rfl) ⟨rfl, below_grown M.old⟩

set_option maxRecDepth 100000 in
set_option maxHeartbeats 4000000 in
set_option linter.unusedSimpArgs false in
theorem c_pu10N (s : ByteArray) (hs : s.size ≤ 1000) (h : prs 10 255 s = none) (w : World) (hL : Laid w)  :
    Calls Tryz.prog 72 #[.string s, .int .i64 10, .int .i64 8] w fun r w' => (∃ x : Int × TypeId × Value, True ∧ r = .returned (.tuple #[.int .u64 x.1, .iface x.2.1 x.2.2])) ∧ Below w.heap.size w w' := by
  go_enter Tryz.func72, Tryz.ntmps72
  have M := Mem.start hL
  refine wp_seq ?_
  refine rg_lit ?_
  refine pl_val (want_no rfl) (some 6) rfl (.int .u64 0) (fun _ => by kernel_rfl) ?_
  refine pl_val (want_no rfl) (some 7) rfl (.nilIface) (fun _ => by kernel_rfl) ?_
  refine pl_nil ?_
  refine au_then ?_
  refine wp_seq ?_
  refine rg_lit ?_
  refine pl_val (want_no rfl) (some 11) rfl (.string s) (fun _ => by kernel_rfl) ?_
  refine pl_val (want_no rfl) (some 12) rfl (.int .i64 10) (fun _ => by kernel_rfl) ?_
  refine pl_val (want_no rfl) (some 13) rfl (.int .i64 8) (fun _ => by kernel_rfl) ?_
  refine pl_callx M (want_no rfl) (some 14) rfl 92 #[.string s, .int .i64 10, .int .i64 8] (fun x : Int × Int => .tuple #[.int .u64 x.1, .iface 131 (.int .i64 x.2)]) (fun x => x.2 = 1 ∨ x.2 = 2) (fun _ => by kernel_rfl) (fun w M => c_ipu10N s hs h w M.laid) ?_
  intro x u1 hk M
  replace M : Mem ⟨w, []⟩ [] u1 := M
  refine pl_val (want_no rfl) (some 10) rfl (.tuple #[.int .u64 x.1, .iface 131 (.int .i64 x.2)]) (fun _ => by kernel_rfl) ?_
  refine pl_val (want_no rfl) (some 15) rfl (.int .u64 x.1) (fun _ => by kernel_rfl) ?_
  refine pl_val (want_no rfl) (some 16) rfl (.iface 131 (.int .i64 x.2)) (fun _ => by kernel_rfl) ?_
  refine pl_val (want_no rfl) (some 8) rfl (.int .u64 x.1) (fun _ => by kernel_rfl) ?_
  refine pl_val (want_no rfl) (some 9) rfl (.iface 131 (.int .i64 x.2)) (fun _ => by kernel_rfl) ?_
  refine pl_nil ?_
  refine au_then ?_
  refine wp_seq ?_
  refine wp_seq ?_
  refine rg_lit ?_
  refine pl_val (want_no rfl) (some 17) rfl (.iface 131 (.int .i64 x.2)) (fun _ => by kernel_rfl) ?_
  refine pl_val (want_no rfl) (some 18) rfl (.bool true) (fun _ => by kernel_rfl) ?_
  refine pl_nil ?_
  refine au_then ?_
  refine wp_cond_true (by kernel_rfl) ?_
  refine wp_seq ?_
  refine rg_lit ?_
  refine pl_val (want_no rfl) (some 19) rfl (.int .u64 x.1) (fun _ => by kernel_rfl) ?_
  refine pl_val (want_no rfl) (some 20) rfl (.string s) (fun _ => by kernel_rfl) ?_
  refine pl_val (want_no rfl) (some 21) rfl (.int .i64 10) (fun _ => by kernel_rfl) ?_
  refine pl_val (want_no rfl) (some 22) rfl (.int .i64 8) (fun _ => by kernel_rfl) ?_
  refine pl_val (want_no rfl) (some 23) rfl (.iface 131 (.int .i64 x.2)) (fun _ => by kernel_rfl) ?_
  refine pl_callx M (want_no rfl) (some 24) rfl 93 #[.string ⟨#[80, 97, 114, 115, 101, 85, 105, 110, 116]⟩, .string s, .int .i64 10, .int .i64 8, .iface 131 (.int .i64 x.2)] (fun n : Nat => .iface 133 (.pointer (some ⟨n, 0, none⟩))) (fun _ => True) (fun _ => by kernel_rfl) (fun w M => (c_toErr _ s _ _ x.2 hk hs w M.laid).mono fun e w2 ⟨⟨n, he⟩, hb⟩ => ⟨⟨n, trivial, he⟩, hb⟩) ?_
  intro n u2 _ M
  replace M : Mem ⟨w, []⟩ [] u2 := M
  refine pl_val (want_no rfl) (some 6) rfl (.int .u64 x.1) (fun _ => by kernel_rfl) ?_
  refine pl_val (want_no rfl) (some 7) rfl (.iface 133 (.pointer (some ⟨n, 0, none⟩))) (fun _ => by kernel_rfl) ?_
  refine pl_nil ?_
  refine au_then ?_
  refine wp_ret ?_
  refine au_then_ret ?_
  exact bodyPost_ret (v := .tuple #[.int .u64 x.1, .iface 133 (.pointer (some ⟨n, 0, none⟩))]) (results_tmp2 Tryz.results72 _ _ _ _ (by kernel_rfl) (by kernel_rfl)) (by kernel_rfl) ⟨⟨(x.1, 133, .pointer (some ⟨n, 0, none⟩)), trivial, rfl⟩, below_grown M.old⟩

theorem prs_lt10 {s : ByteArray} {x : Int} (h : prs 10 255 s = some x) : 0 ≤ x ∧ x ≤ 255 := by
  unfold prs at h
  split at h
  · cases h
  · have := pv_le (b := 10) (m := 255) (s := s) (by decide) (by decide) s.size
    unfold pv at this
    rw [h] at this
    exact this
set_option maxRecDepth 100000 in
set_option maxHeartbeats 4000000 in
set_option linter.unusedSimpArgs false in
theorem c_number10 (s : ByteArray) (w : World) (hL : Laid w)  :
    Calls Tryz.prog 47 #[.string s, .int .i64 10, .int .i64 8] w fun r w' => r = .returned (.tuple #[.int .u16 ((nmb 10 255 s).getD 0), .bool ((nmb 10 255 s).isSome)]) ∧ Below w.heap.size w w' := by
  go_enter Tryz.func47, Tryz.ntmps47
  have M := Mem.start hL
  refine wp_seq ?_
  refine rg_lit ?_
  refine pl_val (want_no rfl) (some 6) rfl (.int .u16 0) (fun _ => by kernel_rfl) ?_
  refine pl_val (want_no rfl) (some 7) rfl (.bool false) (fun _ => by kernel_rfl) ?_
  refine pl_nil ?_
  refine au_then ?_
  refine wp_seq ?_
  refine wp_seq ?_
  refine rg_lit ?_
  refine pl_val (want_no rfl) (some 10) rfl (.string s) (fun _ => by kernel_rfl) ?_
  refine pl_val (want_no rfl) (some 11) rfl (.int .i64 (s.size : Int)) (fun _ => by kernel_rfl) ?_
  by_cases c0 : 4 < (s.size : Int)
  · skip
    refine pl_val (want_no rfl) (some 12) rfl (.bool true) (fun w => Eq.trans (b := .ok (.value (.bool (decide (4 < (s.size : Int))))) w) (by kernel_rfl) (by rw [decide_eq_true (c0)])) ?_
    refine pl_nil ?_
    refine au_then ?_
    refine wp_cond_true (by kernel_rfl) ?_
    refine wp_seq ?_
    refine rg_lit ?_
    refine pl_val (want_no rfl) (some 6) rfl (.int .u16 0) (fun _ => by kernel_rfl) ?_
    refine pl_val (want_no rfl) (some 7) rfl (.bool false) (fun _ => by kernel_rfl) ?_
    refine pl_nil ?_
    refine au_then ?_
    refine wp_ret ?_
    refine au_then_ret ?_
    have e0 : ((nmb 10 255 s).getD 0) = 0 := by rw [(show nmb 10 255 s = none from if_pos c0)]; rfl
    have e1 : (nmb 10 255 s).isSome = false := by rw [(show nmb 10 255 s = none from if_pos c0)]; rfl
    exact bodyPost_ret (v := .tuple #[.int .u16 0, .bool false]) (results_tmp2 Tryz.results47 _ _ _ _ (by kernel_rfl) (by kernel_rfl)) (by kernel_rfl) ⟨by rw [e0, e1], below_grown M.old⟩
  · skip
    refine pl_val (want_no rfl) (some 12) rfl (.bool false) (fun w => Eq.trans (b := .ok (.value (.bool (decide (4 < (s.size : Int))))) w) (by kernel_rfl) (by rw [decide_eq_false (c0)])) ?_
    refine pl_nil ?_
    refine au_then ?_
    refine wp_cond_false (by kernel_rfl) ?_
    refine wp_skip ?_
    refine au_then ?_
    refine wp_seq ?_
    refine rg_lit ?_
    refine pl_val (want_no rfl) (some 14) rfl (.string s) (fun _ => by kernel_rfl) ?_
    refine pl_val (want_no rfl) (some 15) rfl (.int .i64 10) (fun _ => by kernel_rfl) ?_
    refine pl_val (want_no rfl) (some 16) rfl (.int .i64 8) (fun _ => by kernel_rfl) ?_
    rcases hP : prs 10 255 s with _ | y
    · skip
      refine pl_callx M (want_no rfl) (some 17) rfl 72 #[.string s, .int .i64 10, .int .i64 8] (fun x : Int × TypeId × Value => .tuple #[.int .u64 x.1, .iface x.2.1 x.2.2]) (fun _ => True) (fun _ => by kernel_rfl) (fun w M => c_pu10N s (by omega) hP w M.laid) ?_
      intro x u1 _ M
      replace M : Mem ⟨w, []⟩ [] u1 := M
      refine pl_val (want_no rfl) (some 13) rfl (.tuple #[.int .u64 x.1, .iface x.2.1 x.2.2]) (fun _ => by kernel_rfl) ?_
      refine pl_val (want_no rfl) (some 18) rfl (.int .u64 x.1) (fun _ => by kernel_rfl) ?_
      refine pl_val (want_no rfl) (some 19) rfl (.iface x.2.1 x.2.2) (fun _ => by kernel_rfl) ?_
      refine pl_val (want_no rfl) (some 8) rfl (.int .u64 x.1) (fun _ => by kernel_rfl) ?_
      refine pl_val (want_no rfl) (some 9) rfl (.iface x.2.1 x.2.2) (fun _ => by kernel_rfl) ?_
      refine pl_nil ?_
      refine au_then ?_
      refine wp_seq ?_
      refine wp_seq ?_
      refine rg_lit ?_
      refine pl_val (want_no rfl) (some 20) rfl (.iface x.2.1 x.2.2) (fun _ => by kernel_rfl) ?_
      refine pl_val (want_no rfl) (some 21) rfl (.bool true) (fun _ => by kernel_rfl) ?_
      refine pl_nil ?_
      refine au_then ?_
      refine wp_cond_true (by kernel_rfl) ?_
      refine wp_seq ?_
      refine rg_lit ?_
      refine pl_val (want_no rfl) (some 6) rfl (.int .u16 0) (fun _ => by kernel_rfl) ?_
      refine pl_val (want_no rfl) (some 7) rfl (.bool false) (fun _ => by kernel_rfl) ?_
      refine pl_nil ?_
      refine au_then ?_
      refine wp_ret ?_
      refine au_then_ret ?_
      have e0 : ((nmb 10 255 s).getD 0) = 0 := by rw [(show nmb 10 255 s = none from (by unfold nmb; rw [if_neg c0]; exact hP : nmb 10 255 s = none))]; rfl
      have e1 : (nmb 10 255 s).isSome = false := by rw [(show nmb 10 255 s = none from (by unfold nmb; rw [if_neg c0]; exact hP : nmb 10 255 s = none))]; rfl
      exact bodyPost_ret (v := .tuple #[.int .u16 0, .bool false]) (results_tmp2 Tryz.results47 _ _ _ _ (by kernel_rfl) (by kernel_rfl)) (by kernel_rfl) ⟨by rw [e0, e1], below_grown M.old⟩
    · skip
      refine pl_call M (want_no rfl) (some 17) rfl 72 #[.string s, .int .i64 10, .int .i64 8] (.tuple #[.int .u64 y, .nilIface]) (fun _ => by kernel_rfl) (fun w M => c_pu10S s (by omega) y hP w M.laid) ?_
      intro u1 M
      refine pl_val (want_no rfl) (some 13) rfl (.tuple #[.int .u64 y, .nilIface]) (fun _ => by kernel_rfl) ?_
      refine pl_val (want_no rfl) (some 18) rfl (.int .u64 y) (fun _ => by kernel_rfl) ?_
      refine pl_val (want_no rfl) (some 19) rfl (.nilIface) (fun _ => by kernel_rfl) ?_
      refine pl_val (want_no rfl) (some 8) rfl (.int .u64 y) (fun _ => by kernel_rfl) ?_
      refine pl_val (want_no rfl) (some 9) rfl (.nilIface) (fun _ => by kernel_rfl) ?_
      refine pl_nil ?_
      refine au_then ?_
      refine wp_seq ?_
      refine wp_seq ?_
      refine rg_lit ?_
      refine pl_val (want_no rfl) (some 20) rfl (.nilIface) (fun _ => by kernel_rfl) ?_
      refine pl_val (want_no rfl) (some 21) rfl (.bool false) (fun _ => by kernel_rfl) ?_
      refine pl_nil ?_
      refine au_then ?_
      refine wp_cond_false (by kernel_rfl) ?_
      refine wp_skip ?_
      refine au_then ?_
      refine wp_seq ?_
      refine rg_lit ?_
      refine pl_val (want_no rfl) (some 22) rfl (.int .u64 y) (fun _ => by kernel_rfl) ?_
      refine pl_val (want_no rfl) (some 23) rfl (.int .u16 y) (fun w => Eq.trans (b := .ok (.value (.int .u16 (cv .u16 y))) w) (by kernel_rfl) (by have := prs_lt10 hP; rw [cv_u16]; congr 3; omega)) ?_
      refine pl_val (want_no rfl) (some 6) rfl (.int .u16 y) (fun _ => by kernel_rfl) ?_
      refine pl_val (want_no rfl) (some 7) rfl (.bool true) (fun _ => by kernel_rfl) ?_
      refine pl_nil ?_
      refine au_then ?_
      refine wp_ret ?_
      have e0 : ((nmb 10 255 s).getD 0) = y := by rw [(show nmb 10 255 s = some y from (by unfold nmb; rw [if_neg c0]; exact hP : nmb 10 255 s = some y))]; rfl
      have e1 : (nmb 10 255 s).isSome = true := by rw [(show nmb 10 255 s = some y from (by unfold nmb; rw [if_neg c0]; exact hP : nmb 10 255 s = some y))]; rfl
      exact bodyPost_ret (v := .tuple #[.int .u16 y, .bool true]) (results_tmp2 Tryz.results47 _ _ _ _ (by kernel_rfl) (by kernel_rfl)) (by kernel_rfl) ⟨by rw [e0, e1], below_grown M.old⟩

theorem c_ipu16S (s : ByteArray) (hs : s.size ≤ 1000) (x : Int) (h : prs 16 65535 s = some x) (w : World) (hL : Laid w) : Calls Tryz.prog 92 #[.string s, .int .i64 16, .int .i64 16] w fun r w' => r = .returned (.tuple #[.int .u64 x, .nilIface]) ∧ Below w.heap.size w w' :=
  (c_ipu16 s hs w hL).mono fun e w' ⟨h1, h2⟩ => ⟨(by
    rcases h1 with ⟨y, hy, he⟩ | ⟨hn, _⟩
    · rw [h] at hy
      cases hy
      exact he
    · rw [h] at hn
      cases hn), h2⟩
theorem c_ipu16N (s : ByteArray) (hs : s.size ≤ 1000) (h : prs 16 65535 s = none) (w : World) (hL : Laid w) : Calls Tryz.prog 92 #[.string s, .int .i64 16, .int .i64 16] w fun r w' => (∃ x : Int × Int, (x.2 = 1 ∨ x.2 = 2) ∧ r = .returned (.tuple #[.int .u64 x.1, .iface 131 (.int .i64 x.2)])) ∧ Below w.heap.size w w' :=
  (c_ipu16 s hs w hL).mono fun e w' ⟨h1, h2⟩ => ⟨(by
    rcases h1 with ⟨y, hy, he⟩ | ⟨_, y, k, hk, he⟩
    · rw [h] at hy
      cases hy
    · exact ⟨(y, k), hk, he⟩), h2⟩
set_option maxRecDepth 100000 in
set_option maxHeartbeats 4000000 in
set_option linter.unusedSimpArgs false in
theorem c_pu16S (s : ByteArray) (hs : s.size ≤ 1000) (x : Int) (h : prs 16 65535 s = some x) (w : World) (hL : Laid w)  :
    Calls Tryz.prog 72 #[.string s, .int .i64 16, .int .i64 16] w fun r w' => r = .returned (.tuple #[.int .u64 x, .nilIface]) ∧ Below w.heap.size w w' := by
  go_enter Tryz.func72, Tryz.ntmps72
  have M := Mem.start hL
  refine wp_seq ?_
  refine rg_lit ?_
  refine pl_val (want_no rfl) (some 6) rfl (.int .u64 0) (fun _ => by kernel_rfl) ?_
  refine pl_val (want_no rfl) (some 7) rfl (.nilIface) (fun _ => by kernel_rfl) ?_
  refine pl_nil ?_
  refine au_then ?_
  refine wp_seq ?_
  refine rg_lit ?_
  refine pl_val (want_no rfl) (some 11) rfl (.string s) (fun _ => by kernel_rfl) ?_
  refine pl_val (want_no rfl) (some 12) rfl (.int .i64 16) (fun _ => by kernel_rfl) ?_
  refine pl_val (want_no rfl) (some 13) rfl (.int .i64 16) (fun _ => by kernel_rfl) ?_
  refine pl_call M (want_no rfl) (some 14) rfl 92 #[.string s, .int .i64 16, .int .i64 16] (.tuple #[.int .u64 x, .nilIface]) (fun _ => by kernel_rfl) (fun w M => c_ipu16S s hs x h w M.laid) ?_
  intro u1 M
  refine pl_val (want_no rfl) (some 10) rfl (.tuple #[.int .u64 x, .nilIface]) (fun _ => by kernel_rfl) ?_
  refine pl_val (want_no rfl) (some 15) rfl (.int .u64 x) (fun _ => by kernel_rfl) ?_
  refine pl_val (want_no rfl) (some 16) rfl (.nilIface) (fun _ => by kernel_rfl) ?_
  refine pl_val (want_no rfl) (some 8) rfl (.int .u64 x) (fun _ => by kernel_rfl) ?_
  refine pl_val (want_no rfl) (some 9) rfl (.nilIface) (fun _ => by kernel_rfl) ?_
  refine pl_nil ?_
  refine au_then ?_
  refine wp_seq ?_
  refine wp_seq ?_
  refine rg_lit ?_
  refine pl_val (want_no rfl) (some 17) rfl (.nilIface) (fun _ => by kernel_rfl) ?_
  refine pl_val (want_no rfl) (some 18) rfl (.bool false) (fun _ => by kernel_rfl) ?_
  refine pl_nil ?_
  refine au_then ?_
  refine wp_cond_false (by kernel_rfl) ?_
  refine wp_skip ?_
  refine au_then ?_
  refine wp_seq ?_
  refine rg_lit ?_
  refine pl_val (want_no rfl) (some 25) rfl (.int .u64 x) (fun _ => by kernel_rfl) ?_
  refine pl_val (want_no rfl) (some 6) rfl (.int .u64 x) (fun _ => by kernel_rfl) ?_
  refine pl_val (want_no rfl) (some 7) rfl (.nilIface) (fun _ => by kernel_rfl) ?_
  refine pl_nil ?_
  refine au_then ?_
  refine wp_ret ?_
  exact bodyPost_ret (v := .tuple #[.int .u64 x, .nilIface]) (results_tmp2 Tryz.results72 _ _ _ _ (by kernel_rfl) (by kernel_rfl)) (by kernel_rfl) ⟨rfl, below_grown M.old⟩

set_option maxRecDepth 100000 in
set_option maxHeartbeats 4000000 in
set_option linter.unusedSimpArgs false in
theorem c_pu16N (s : ByteArray) (hs : s.size ≤ 1000) (h : prs 16 65535 s = none) (w : World) (hL : Laid w)  :
    Calls Tryz.prog 72 #[.string s, .int .i64 16, .int .i64 16] w fun r w' => (∃ x : Int × TypeId × Value, True ∧ r = .returned (.tuple #[.int .u64 x.1, .iface x.2.1 x.2.2])) ∧ Below w.heap.size w w' := by
  go_enter Tryz.func72, Tryz.ntmps72
  have M := Mem.start hL
  refine wp_seq ?_
  refine rg_lit ?_
  refine pl_val (want_no rfl) (some 6) rfl (.int .u64 0) (fun _ => by kernel_rfl) ?_
  refine pl_val (want_no rfl) (some 7) rfl (.nilIface) (fun _ => by kernel_rfl) ?_
  refine pl_nil ?_
  refine au_then ?_
  refine wp_seq ?_
  refine rg_lit ?_
  refine pl_val (want_no rfl) (some 11) rfl (.string s) (fun _ => by kernel_rfl) ?_
  refine pl_val (want_no rfl) (some 12) rfl (.int .i64 16) (fun _ => by kernel_rfl) ?_
  refine pl_val (want_no rfl) (some 13) rfl (.int .i64 16) (fun _ => by kernel_rfl) ?_
  refine pl_callx M (want_no rfl) (some 14) rfl 92 #[.string s, .int .i64 16, .int .i64 16] (fun x : Int × Int => .tuple #[.int .u64 x.1, .iface 131 (.int .i64 x.2)]) (fun x => x.2 = 1 ∨ x.2 = 2) (fun _ => by kernel_rfl) (fun w M => c_ipu16N s hs h w M.laid) ?_
  intro x u1 hk M
  replace M : Mem ⟨w, []⟩ [] u1 := M
  refine pl_val (want_no rfl) (some 10) rfl (.tuple #[.int .u64 x.1, .iface 131 (.int .i64 x.2)]) (fun _ => by kernel_rfl) ?_
  refine pl_val (want_no rfl) (some 15) rfl (.int .u64 x.1) (fun _ => by kernel_rfl) ?_
  refine pl_val (want_no rfl) (some 16) rfl (.iface 131 (.int .i64 x.2)) (fun _ => by kernel_rfl) ?_
  refine pl_val (want_no rfl) (some 8) rfl (.int .u64 x.1) (fun _ => by kernel_rfl) ?_
  refine pl_val (want_no rfl) (some 9) rfl (.iface 131 (.int .i64 x.2)) (fun _ => by kernel_rfl) ?_
  refine pl_nil ?_
  refine au_then ?_
  refine wp_seq ?_
  refine wp_seq ?_
  refine rg_lit ?_
  refine pl_val (want_no rfl) (some 17) rfl (.iface 131 (.int .i64 x.2)) (fun _ => by kernel_rfl) ?_
  refine pl_val (want_no rfl) (some 18) rfl (.bool true) (fun _ => by kernel_rfl) ?_
  refine pl_nil ?_
  refine au_then ?_
  refine wp_cond_true (by kernel_rfl) ?_
  refine wp_seq ?_
  refine rg_lit ?_
  refine pl_val (want_no rfl) (some 19) rfl (.int .u64 x.1) (fun _ => by kernel_rfl) ?_
  refine pl_val (want_no rfl) (some 20) rfl (.string s) (fun _ => by kernel_rfl) ?_
  refine pl_val (want_no rfl) (some 21) rfl (.int .i64 16) (fun _ => by kernel_rfl) ?_
  refine pl_val (want_no rfl) (some 22) rfl (.int .i64 16) (fun _ => by kernel_rfl) ?_
  refine pl_val (want_no rfl) (some 23) rfl (.iface 131 (.int .i64 x.2)) (fun _ => by kernel_rfl) ?_
  refine pl_callx M (want_no rfl) (some 24) rfl 93 #[.string ⟨#[80, 97, 114, 115, 101, 85, 105, 110, 116]⟩, .string s, .int .i64 16, .int .i64 16, .iface 131 (.int .i64 x.2)] (fun n : Nat => .iface 133 (.pointer (some ⟨n, 0, none⟩))) (fun _ => True) (fun _ => by kernel_rfl) (fun w M => (c_toErr _ s _ _ x.2 hk hs w M.laid).mono fun e w2 ⟨⟨n, he⟩, hb⟩ => ⟨⟨n, trivial, he⟩, hb⟩) ?_
  intro n u2 _ M
  replace M : Mem ⟨w, []⟩ [] u2 := M
  refine pl_val (want_no rfl) (some 6) rfl (.int .u64 x.1) (fun _ => by kernel_rfl) ?_
  refine pl_val (want_no rfl) (some 7) rfl (.iface 133 (.pointer (some ⟨n, 0, none⟩))) (fun _ => by kernel_rfl) ?_
  refine pl_nil ?_
  refine au_then ?_
  refine wp_ret ?_
  refine au_then_ret ?_
  exact bodyPost_ret (v := .tuple #[.int .u64 x.1, .iface 133 (.pointer (some ⟨n, 0, none⟩))]) (results_tmp2 Tryz.results72 _ _ _ _ (by kernel_rfl) (by kernel_rfl)) (by kernel_rfl) ⟨⟨(x.1, 133, .pointer (some ⟨n, 0, none⟩)), trivial, rfl⟩, below_grown M.old⟩

theorem prs_lt16 {s : ByteArray} {x : Int} (h : prs 16 65535 s = some x) : 0 ≤ x ∧ x ≤ 65535 := by
  unfold prs at h
  split at h
  · cases h
  · have := pv_le (b := 16) (m := 65535) (s := s) (by decide) (by decide) s.size
    unfold pv at this
    rw [h] at this
    exact this
set_option maxRecDepth 100000 in
set_option maxHeartbeats 4000000 in
set_option linter.unusedSimpArgs false in
theorem c_number16 (s : ByteArray) (w : World) (hL : Laid w)  :
    Calls Tryz.prog 47 #[.string s, .int .i64 16, .int .i64 16] w fun r w' => r = .returned (.tuple #[.int .u16 ((nmb 16 65535 s).getD 0), .bool ((nmb 16 65535 s).isSome)]) ∧ Below w.heap.size w w' := by
  go_enter Tryz.func47, Tryz.ntmps47
  have M := Mem.start hL
  refine wp_seq ?_
  refine rg_lit ?_
  refine pl_val (want_no rfl) (some 6) rfl (.int .u16 0) (fun _ => by kernel_rfl) ?_
  refine pl_val (want_no rfl) (some 7) rfl (.bool false) (fun _ => by kernel_rfl) ?_
  refine pl_nil ?_
  refine au_then ?_
  refine wp_seq ?_
  refine wp_seq ?_
  refine rg_lit ?_
  refine pl_val (want_no rfl) (some 10) rfl (.string s) (fun _ => by kernel_rfl) ?_
  refine pl_val (want_no rfl) (some 11) rfl (.int .i64 (s.size : Int)) (fun _ => by kernel_rfl) ?_
  by_cases c0 : 4 < (s.size : Int)
  · skip
    refine pl_val (want_no rfl) (some 12) rfl (.bool true) (fun w => Eq.trans (b := .ok (.value (.bool (decide (4 < (s.size : Int))))) w) (by kernel_rfl) (by rw [decide_eq_true (c0)])) ?_
    refine pl_nil ?_
    refine au_then ?_
    refine wp_cond_true (by kernel_rfl) ?_
    refine wp_seq ?_
    refine rg_lit ?_
    refine pl_val (want_no rfl) (some 6) rfl (.int .u16 0) (fun _ => by kernel_rfl) ?_
    refine pl_val (want_no rfl) (some 7) rfl (.bool false) (fun _ => by kernel_rfl) ?_
    refine pl_nil ?_
    refine au_then ?_
    refine wp_ret ?_
    refine au_then_ret ?_
    have e0 : ((nmb 16 65535 s).getD 0) = 0 := by rw [(show nmb 16 65535 s = none from if_pos c0)]; rfl
    have e1 : (nmb 16 65535 s).isSome = false := by rw [(show nmb 16 65535 s = none from if_pos c0)]; rfl
    exact bodyPost_ret (v := .tuple #[.int .u16 0, .bool false]) (results_tmp2 Tryz.results47 _ _ _ _ (by kernel_rfl) (by kernel_rfl)) (by kernel_rfl) ⟨by rw [e0, e1], below_grown M.old⟩
  · skip
    refine pl_val (want_no rfl) (some 12) rfl (.bool false) (fun w => Eq.trans (b := .ok (.value (.bool (decide (4 < (s.size : Int))))) w) (by kernel_rfl) (by rw [decide_eq_false (c0)])) ?_
    refine pl_nil ?_
    refine au_then ?_
    refine wp_cond_false (by kernel_rfl) ?_
    refine wp_skip ?_
    refine au_then ?_
    refine wp_seq ?_
    refine rg_lit ?_
    refine pl_val (want_no rfl) (some 14) rfl (.string s) (fun _ => by kernel_rfl) ?_
    refine pl_val (want_no rfl) (some 15) rfl (.int .i64 16) (fun _ => by kernel_rfl) ?_
    refine pl_val (want_no rfl) (some 16) rfl (.int .i64 16) (fun _ => by kernel_rfl) ?_
    rcases hP : prs 16 65535 s with _ | y
    · skip
      refine pl_callx M (want_no rfl) (some 17) rfl 72 #[.string s, .int .i64 16, .int .i64 16] (fun x : Int × TypeId × Value => .tuple #[.int .u64 x.1, .iface x.2.1 x.2.2]) (fun _ => True) (fun _ => by kernel_rfl) (fun w M => c_pu16N s (by omega) hP w M.laid) ?_
      intro x u1 _ M
      replace M : Mem ⟨w, []⟩ [] u1 := M
      refine pl_val (want_no rfl) (some 13) rfl (.tuple #[.int .u64 x.1, .iface x.2.1 x.2.2]) (fun _ => by kernel_rfl) ?_
      refine pl_val (want_no rfl) (some 18) rfl (.int .u64 x.1) (fun _ => by kernel_rfl) ?_
      refine pl_val (want_no rfl) (some 19) rfl (.iface x.2.1 x.2.2) (fun _ => by kernel_rfl) ?_
      refine pl_val (want_no rfl) (some 8) rfl (.int .u64 x.1) (fun _ => by kernel_rfl) ?_
      refine pl_val (want_no rfl) (some 9) rfl (.iface x.2.1 x.2.2) (fun _ => by kernel_rfl) ?_
      refine pl_nil ?_
      refine au_then ?_
      refine wp_seq ?_
      refine wp_seq ?_
      refine rg_lit ?_
      refine pl_val (want_no rfl) (some 20) rfl (.iface x.2.1 x.2.2) (fun _ => by kernel_rfl) ?_
      refine pl_val (want_no rfl) (some 21) rfl (.bool true) (fun _ => by kernel_rfl) ?_
      refine pl_nil ?_
      refine au_then ?_
      refine wp_cond_true (by kernel_rfl) ?_
      refine wp_seq ?_
      refine rg_lit ?_
      refine pl_val (want_no rfl) (some 6) rfl (.int .u16 0) (fun _ => by kernel_rfl) ?_
      refine pl_val (want_no rfl) (some 7) rfl (.bool false) (fun _ => by kernel_rfl) ?_
      refine pl_nil ?_
      refine au_then ?_
      refine wp_ret ?_
      refine au_then_ret ?_
      have e0 : ((nmb 16 65535 s).getD 0) = 0 := by rw [(show nmb 16 65535 s = none from (by unfold nmb; rw [if_neg c0]; exact hP : nmb 16 65535 s = none))]; rfl
      have e1 : (nmb 16 65535 s).isSome = false := by rw [(show nmb 16 65535 s = none from (by unfold nmb; rw [if_neg c0]; exact hP : nmb 16 65535 s = none))]; rfl
      exact bodyPost_ret (v := .tuple #[.int .u16 0, .bool false]) (results_tmp2 Tryz.results47 _ _ _ _ (by kernel_rfl) (by kernel_rfl)) (by kernel_rfl) ⟨by rw [e0, e1], below_grown M.old⟩
    · skip
      refine pl_call M (want_no rfl) (some 17) rfl 72 #[.string s, .int .i64 16, .int .i64 16] (.tuple #[.int .u64 y, .nilIface]) (fun _ => by kernel_rfl) (fun w M => c_pu16S s (by omega) y hP w M.laid) ?_
      intro u1 M
      refine pl_val (want_no rfl) (some 13) rfl (.tuple #[.int .u64 y, .nilIface]) (fun _ => by kernel_rfl) ?_
      refine pl_val (want_no rfl) (some 18) rfl (.int .u64 y) (fun _ => by kernel_rfl) ?_
      refine pl_val (want_no rfl) (some 19) rfl (.nilIface) (fun _ => by kernel_rfl) ?_
      refine pl_val (want_no rfl) (some 8) rfl (.int .u64 y) (fun _ => by kernel_rfl) ?_
      refine pl_val (want_no rfl) (some 9) rfl (.nilIface) (fun _ => by kernel_rfl) ?_
      refine pl_nil ?_
      refine au_then ?_
      refine wp_seq ?_
      refine wp_seq ?_
      refine rg_lit ?_
      refine pl_val (want_no rfl) (some 20) rfl (.nilIface) (fun _ => by kernel_rfl) ?_
      refine pl_val (want_no rfl) (some 21) rfl (.bool false) (fun _ => by kernel_rfl) ?_
      refine pl_nil ?_
      refine au_then ?_
      refine wp_cond_false (by kernel_rfl) ?_
      refine wp_skip ?_
      refine au_then ?_
      refine wp_seq ?_
      refine rg_lit ?_
      refine pl_val (want_no rfl) (some 22) rfl (.int .u64 y) (fun _ => by kernel_rfl) ?_
      refine pl_val (want_no rfl) (some 23) rfl (.int .u16 y) (fun w => Eq.trans (b := .ok (.value (.int .u16 (cv .u16 y))) w) (by kernel_rfl) (by have := prs_lt16 hP; rw [cv_u16]; congr 3; omega)) ?_
      refine pl_val (want_no rfl) (some 6) rfl (.int .u16 y) (fun _ => by kernel_rfl) ?_
      refine pl_val (want_no rfl) (some 7) rfl (.bool true) (fun _ => by kernel_rfl) ?_
      refine pl_nil ?_
      refine au_then ?_
      refine wp_ret ?_
      have e0 : ((nmb 16 65535 s).getD 0) = y := by rw [(show nmb 16 65535 s = some y from (by unfold nmb; rw [if_neg c0]; exact hP : nmb 16 65535 s = some y))]; rfl
      have e1 : (nmb 16 65535 s).isSome = true := by rw [(show nmb 16 65535 s = some y from (by unfold nmb; rw [if_neg c0]; exact hP : nmb 16 65535 s = some y))]; rfl
      exact bodyPost_ret (v := .tuple #[.int .u16 y, .bool true]) (results_tmp2 Tryz.results47 _ _ _ _ (by kernel_rfl) (by kernel_rfl)) (by kernel_rfl) ⟨by rw [e0, e1], below_grown M.old⟩


end Go.Proofs.YtndonmdgplojnaaGreatDoor
