/- Words are turned; the words to begin with; what a piece is mixed into: the walks of RotateLeft32, turned, firstWords, wordsOf and spreadOut. -/
import Derived.Test.YtpfneekmbednoaaDoorGrow
namespace Go.Proofs.YtpfneekmbednoaaDoor
open Go.RowKit

theorem inz56 : (Tryd.prog.info? 56).map (·.size) = some 1 := by kernel_rfl
theorem inz5 : (Tryd.prog.info? 5).map (·.size) = some 1 := by kernel_rfl
theorem inz57 : (Tryd.prog.info? 57).map (·.size) = some 8 := by kernel_rfl
theorem inz67 : (Tryd.prog.info? 67).map (·.size) = some 16 := by kernel_rfl
theorem inz87 : (Tryd.prog.info? 87).map (·.size) = some 16 := by kernel_rfl
theorem inz3 : (Tryd.prog.info? 3).map (·.size) = some 1 := by kernel_rfl
theorem inz4 : (Tryd.prog.info? 4).map (·.size) = some 1 := by kernel_rfl
theorem inz9 : (Tryd.prog.info? 9).map (·.size) = some 1 := by kernel_rfl
theorem inz61 : (Tryd.prog.info? 61).map (·.size) = some 1 := by kernel_rfl
theorem inz42 : (Tryd.prog.info? 42).map (·.size) = some 1 := by kernel_rfl
theorem inz74 : (Tryd.prog.info? 74).map (·.size) = some 11 := by kernel_rfl
theorem inz68 : (Tryd.prog.info? 68).map (·.size) = some 16 := by kernel_rfl
theorem inz77 : (Tryd.prog.info? 77).map (·.size) = some 10 := by kernel_rfl
theorem inz88 : (Tryd.prog.info? 88).map (·.size) = some 160 := by kernel_rfl

theorem Mem.oldc {c : Ctx} {L : List Blk} {W : World} (M : Mem c L W) {g k : Nat} {v : Value} (hc : c.w.cell? ⟨g, k, none⟩ = some v) (hr : g ∉ c.r) : W.cell? ⟨g, k, none⟩ = some v := by
  have hlt : g < c.w.heap.size := by
    refine Classical.byContradiction fun hn => ?_
    have : c.w.heap[g]? = none := Array.getElem?_eq_none (by omega)
    simp [World.cell?, this] at hc
  rw [← hc]
  unfold World.cell?
  simp only
  rw [M.old.block g hlt hr]

theorem wrap64 {x : Int} (h0 : -9223372036854775808 ≤ x) (h1 : x < 9223372036854775808) : IntKind.wrap .i64 x = x := by
  simp [IntKind.wrap, IntKind.signed, IntKind.bits, go_sem]
  omega
theorem quo4 (j : Nat) (hj : j < 1000000) : IntKind.wrap .i64 ((j : Int).tdiv 4) = ((j / 4 : Nat) : Int) := by
  rw [Int.tdiv_eq_ediv_of_nonneg (by omega), wrap64 (by omega) (by omega)]
  omega
theorem quo8 (j : Nat) (hj : j < 1000000) : IntKind.wrap .i64 ((j : Int).tdiv 8) = ((j / 8 : Nat) : Int) := by
  rw [Int.tdiv_eq_ediv_of_nonneg (by omega), wrap64 (by omega) (by omega)]
  omega
theorem rem4 (n : Nat) : Int.tmod (n : Int) 4 = ((n % 4 : Nat) : Int) := by
  rw [Int.tmod_eq_emod_of_nonneg (by omega)]
  omega
theorem rem5 (n : Nat) : Int.tmod (n : Int) 5 = ((n % 5 : Nat) : Int) := by
  rw [Int.tmod_eq_emod_of_nonneg (by omega)]
  omega
theorem rem8 (n : Nat) : Int.tmod (n : Int) 8 = ((n % 8 : Nat) : Int) := by
  rw [Int.tmod_eq_emod_of_nonneg (by omega)]
  omega
theorem run_shlV {P : Program} {a : Act} {o : Oper} (t rt : TypeId) (x y : Operand) (ho : o.op = .binOp .shl t x y rt) (k : Int) (ky : IntKind) (m : Nat) (hx : a.eval x = .int .u32 k) (hy : a.eval y = .int ky (m : Int)) (_hm : m ≤ 32) (w : World) :
    (execOp a.eval o).run P w = .ok (.value (.int .u32 (vl k m))) w := by
  unfold execOp vl
  simp [ho, hx, hy, eqGuard, binOp]
/-- A row of arrays: the whole of one of them. -/
theorem run_ixP {P : Program} {a : Act} {o : Oper} (t : TypeId) (len : Nat) (elem : TypeId) (sz : Nat) (hu : P.underlying t = some (.array len elem)) (hs : (P.info? elem).map (·.size) = some sz) (hag : ∀ w, (isAgg elem).run P w = .ok true w) (x ix : Operand) (ho : o.op = .index t x ix) (F : Nat → Value) (n : Nat) (hx : a.eval x = .agg (av n F)) (k : IntKind) (i : Nat) (hi : a.eval ix = .int k (i : Int)) (hlt : i < len) (hn : i * sz + sz ≤ n) (w : World) :
    (execOp a.eval o).run P w = .ok (.value (.agg (av sz (fun j => F (i * sz + j))))) w := by
  have he : (av n F).extract (i * sz) (i * sz + sz) = av sz (fun j => F (i * sz + j)) := by
    apply Array.ext_getElem?
    intro j
    rw [Array.getElem?_extract]
    by_cases hj : j < sz
    · rw [if_pos (by rw [av_size]; omega), av_get _ _ _ (by omega), av_get _ _ _ hj]
    · rw [if_neg (by rw [av_size]; omega), Array.getElem?_eq_none (by rw [av_size]; omega)]
  cases hq : P.info? elem with
  | none => simp [hq] at hs
  | some u =>
    have hsz : u.size = sz := by simpa [hq] using hs
    unfold execOp
    simp [ho, hx, hi, Instr.index, asIntOf, run_underlying hu, sizeOf, typeInfo, hq, hsz, hlt, part, hag, he]
/-- The package's variable is loaded. -/
theorem pl_laid {P : Program} {ops : Array Oper} {rest : List Oper} {o : Oper} {a : Act} {w : World} {c : Ctx} {L : List Blk} {Q : Exit → Act → World → Prop} (M : Mem c L w) (hw : Region.wanted o (yielded ops a.tmps) = true) (d : Option Tmp) (hd : o.dst = d) (ty : TypeId) (x : Operand) (ho : o.op = .load ty x) (hx : a.eval x = .pointer (some ⟨0, 0, none⟩)) (t : TypeDesc) (hu : P.underlying ty = some t) (ht : t.isRow = true) (hz : (P.info? ty).map (·.size) = some 160)
    (h : PL P ops Q rest (a.put d (.agg (av 160 (w8 fun i => (OF i : Int))))) w) : PL P ops Q (o :: rest) a w := by
  refine pl_to hw d hd _ w ?_ h
  unfold execOp
  have hl := run_loadAt_mid (P := P) w 0 0 ty (av 160 (w8 fun i => (OF i : Int))).toList t (fun j v hv => by
    obtain ⟨hj, rfl⟩ := av_toList_get _ _ _ _ hv
    rw [Nat.zero_add]
    exact M.laid j hj) hu ht (by rw [hz]; simp [av_size])
  simp only [ho, hx, Sem.run_bind, hl, Result.andThen_ok, Sem.run_pure, Array.toArray_toList]

/-- x turned to the right by n. -/
def rot (x : Int) (n : Nat) : Int := vo (vl x (32 - n)) (sr x n)
def r8 (a b c d e f g h : Int) : Nat → Int
  | 0 => a
  | 1 => b
  | 2 => c
  | 3 => d
  | 4 => e
  | 5 => f
  | 6 => g
  | 7 => h
  | _ => 0
def r4 (a b c d : Int) : Nat → Int
  | 0 => a
  | 1 => b
  | 2 => c
  | 3 => d
  | _ => 0
/-- The words to begin with. -/
def HB : Nat → Int := r8 1779033703 3144134277 1013904242 2773480762 1359893119 2600822924 528734635 1541459225
/-- The words of a piece's first bytes. -/
def wo (rs : Nat → Int) : Nat → (Nat → Int)
  | 0 => fun _ => 0
  | j + 1 => upd (wo rs j) (j / 4) (vo (wo rs j (j / 4)) (vl (cv .u32 (rs j)) (j % 4 * 8)))
def spB (x : Nat → Int) : Nat → Int := fun i => if i < 8 then x i else HB (i - 8)
def spC (x : Nat → Int) (ct : Int) : Nat → Int := upd (upd (spB x) 12 (vx (spB x 12) (cv .u32 ct))) 13 (vx (upd (spB x) 12 (vx (spB x 12) (cv .u32 ct)) 13) (cv .u32 (sr ct 32)))
def spr (x : Nat → Int) (ct : Int) (last : Bool) : Nat → Int := if last then upd (spC x ct) 14 (vt (spC x ct 14)) else spC x ct

theorem run_ixL {P : Program} {a : Act} {o : Oper} (t elem : TypeId) (hu : P.underlying t = some (.slice elem)) (hs : (P.info? elem).map (·.size) = some 1) (x ix : Operand) (ho : o.op = .indexAddr t x ix) (g off len cap : Nat) (hx : a.eval x = .slice (some ⟨g, off, none⟩) len cap) (k : IntKind) (i : Nat) (hi : a.eval ix = .int k (i : Int)) (hlt : i < len) (w : World) :
    (execOp a.eval o).run P w = .ok (.value (.pointer (some ⟨g, off + i, none⟩))) w := by
  cases hq : P.info? elem with
  | none => simp [hq] at hs
  | some u =>
    have hsz : u.size = 1 := by simpa [hq] using hs
    unfold execOp
    simp [ho, hx, hi, Instr.indexAt, asIntOf, run_underlying hu, sizeOf, typeInfo, hq, hsz, add_at, hlt]

set_option maxRecDepth 100000 in
set_option maxHeartbeats 4000000 in
theorem c_rl16 (x : Int) (w : World) (hL : Laid w)  :
    Calls Tryd.prog 51 #[.int .u32 x, .int .i64 (-16)] w fun r w' => r = .returned (.int .u32 (rot x 16)) ∧ Below w.heap.size w w' := by
  go_enter Tryd.func51, Tryd.ntmps51
  have M := Mem.start hL
  refine wp_seq ?_
  refine rg_lit ?_
  refine pl_val (want_no rfl) (some 4) rfl (.int .u32 0) (fun _ => by kernel_rfl) ?_
  refine pl_nil ?_
  refine au_then ?_
  refine wp_seq ?_
  refine rg_lit ?_
  refine pl_val (want_no rfl) (some 6) rfl (.int .i64 (-16)) (fun _ => by kernel_rfl) ?_
  refine pl_val (want_no rfl) (some 7) rfl (.int .u64 18446744073709551600) (fun _ => by kernel_rfl) ?_
  refine pl_val (want_no rfl) (some 8) rfl (.int .u64 16) (fun _ => by kernel_rfl) ?_
  refine pl_val (want_no rfl) (some 5) rfl (.int .u64 16) (fun _ => by kernel_rfl) ?_
  refine pl_nil ?_
  refine au_then ?_
  refine wp_seq ?_
  refine rg_lit ?_
  refine pl_val (want_no rfl) (some 9) rfl (.int .u32 x) (fun _ => by kernel_rfl) ?_
  refine pl_val (want_no rfl) (some 10) rfl (.int .u64 16) (fun _ => by kernel_rfl) ?_
  refine pl_val (want_no rfl) (some 11) rfl (.int .u32 (vl x 16)) (fun _ => by kernel_rfl) ?_
  refine pl_val (want_no rfl) (some 12) rfl (.int .u32 x) (fun _ => by kernel_rfl) ?_
  refine pl_val (want_no rfl) (some 13) rfl (.int .u64 16) (fun _ => by kernel_rfl) ?_
  refine pl_val (want_no rfl) (some 14) rfl (.int .u64 16) (fun _ => by kernel_rfl) ?_
  refine pl_val (want_no rfl) (some 15) rfl (.int .u32 (sr x 16)) (fun _ => by kernel_rfl) ?_
  refine pl_val (want_no rfl) (some 16) rfl (.int .u32 (vo (vl x 16) (sr x 16))) (fun _ => by kernel_rfl) ?_
  refine pl_val (want_no rfl) (some 4) rfl (.int .u32 (vo (vl x 16) (sr x 16))) (fun _ => by kernel_rfl) ?_
  refine pl_nil ?_
  refine au_then ?_
  refine wp_ret ?_
  exact bodyPost_ret (v := .int .u32 (vo (vl x 16) (sr x 16))) (results_tmp1 Tryd.results51 _ _ _ (by kernel_rfl)) (by kernel_rfl) ⟨rfl, below_grown M.old⟩

set_option maxRecDepth 100000 in
set_option maxHeartbeats 4000000 in
theorem c_turned16 (x : Int) (w : World) (hL : Laid w)  :
    Calls Tryd.prog 46 #[.int .u32 x, .int .i64 16] w fun r w' => r = .returned (.int .u32 (rot x 16)) ∧ Below w.heap.size w w' := by
  go_enter Tryd.func46, Tryd.ntmps46
  have M := Mem.start hL
  refine wp_seq ?_
  refine rg_lit ?_
  refine pl_val (want_no rfl) (some 4) rfl (.int .u32 0) (fun _ => by kernel_rfl) ?_
  refine pl_nil ?_
  refine au_then ?_
  refine wp_seq ?_
  refine rg_lit ?_
  refine pl_val (want_no rfl) (some 5) rfl (.int .u32 x) (fun _ => by kernel_rfl) ?_
  refine pl_val (want_no rfl) (some 6) rfl (.int .i64 16) (fun _ => by kernel_rfl) ?_
  refine pl_val (want_no rfl) (some 7) rfl (.int .i64 (-16)) (fun _ => by kernel_rfl) ?_
  refine pl_call M (want_no rfl) (some 8) rfl 51 #[.int .u32 x, .int .i64 (-16)] (.int .u32 (rot x 16)) (fun _ => by kernel_rfl) (fun w M => c_rl16 x w M.laid) ?_
  intro u1 M
  refine pl_val (want_no rfl) (some 4) rfl (.int .u32 (rot x 16)) (fun _ => by kernel_rfl) ?_
  refine pl_nil ?_
  refine au_then ?_
  refine wp_ret ?_
  exact bodyPost_ret (v := .int .u32 (rot x 16)) (results_tmp1 Tryd.results46 _ _ _ (by kernel_rfl)) (by kernel_rfl) ⟨rfl, below_grown M.old⟩

set_option maxRecDepth 100000 in
set_option maxHeartbeats 4000000 in
theorem c_rl12 (x : Int) (w : World) (hL : Laid w)  :
    Calls Tryd.prog 51 #[.int .u32 x, .int .i64 (-12)] w fun r w' => r = .returned (.int .u32 (rot x 12)) ∧ Below w.heap.size w w' := by
  go_enter Tryd.func51, Tryd.ntmps51
  have M := Mem.start hL
  refine wp_seq ?_
  refine rg_lit ?_
  refine pl_val (want_no rfl) (some 4) rfl (.int .u32 0) (fun _ => by kernel_rfl) ?_
  refine pl_nil ?_
  refine au_then ?_
  refine wp_seq ?_
  refine rg_lit ?_
  refine pl_val (want_no rfl) (some 6) rfl (.int .i64 (-12)) (fun _ => by kernel_rfl) ?_
  refine pl_val (want_no rfl) (some 7) rfl (.int .u64 18446744073709551604) (fun _ => by kernel_rfl) ?_
  refine pl_val (want_no rfl) (some 8) rfl (.int .u64 20) (fun _ => by kernel_rfl) ?_
  refine pl_val (want_no rfl) (some 5) rfl (.int .u64 20) (fun _ => by kernel_rfl) ?_
  refine pl_nil ?_
  refine au_then ?_
  refine wp_seq ?_
  refine rg_lit ?_
  refine pl_val (want_no rfl) (some 9) rfl (.int .u32 x) (fun _ => by kernel_rfl) ?_
  refine pl_val (want_no rfl) (some 10) rfl (.int .u64 20) (fun _ => by kernel_rfl) ?_
  refine pl_val (want_no rfl) (some 11) rfl (.int .u32 (vl x 20)) (fun _ => by kernel_rfl) ?_
  refine pl_val (want_no rfl) (some 12) rfl (.int .u32 x) (fun _ => by kernel_rfl) ?_
  refine pl_val (want_no rfl) (some 13) rfl (.int .u64 20) (fun _ => by kernel_rfl) ?_
  refine pl_val (want_no rfl) (some 14) rfl (.int .u64 12) (fun _ => by kernel_rfl) ?_
  refine pl_val (want_no rfl) (some 15) rfl (.int .u32 (sr x 12)) (fun _ => by kernel_rfl) ?_
  refine pl_val (want_no rfl) (some 16) rfl (.int .u32 (vo (vl x 20) (sr x 12))) (fun _ => by kernel_rfl) ?_
  refine pl_val (want_no rfl) (some 4) rfl (.int .u32 (vo (vl x 20) (sr x 12))) (fun _ => by kernel_rfl) ?_
  refine pl_nil ?_
  refine au_then ?_
  refine wp_ret ?_
  exact bodyPost_ret (v := .int .u32 (vo (vl x 20) (sr x 12))) (results_tmp1 Tryd.results51 _ _ _ (by kernel_rfl)) (by kernel_rfl) ⟨rfl, below_grown M.old⟩

set_option maxRecDepth 100000 in
set_option maxHeartbeats 4000000 in
theorem c_turned12 (x : Int) (w : World) (hL : Laid w)  :
    Calls Tryd.prog 46 #[.int .u32 x, .int .i64 12] w fun r w' => r = .returned (.int .u32 (rot x 12)) ∧ Below w.heap.size w w' := by
  go_enter Tryd.func46, Tryd.ntmps46
  have M := Mem.start hL
  refine wp_seq ?_
  refine rg_lit ?_
  refine pl_val (want_no rfl) (some 4) rfl (.int .u32 0) (fun _ => by kernel_rfl) ?_
  refine pl_nil ?_
  refine au_then ?_
  refine wp_seq ?_
  refine rg_lit ?_
  refine pl_val (want_no rfl) (some 5) rfl (.int .u32 x) (fun _ => by kernel_rfl) ?_
  refine pl_val (want_no rfl) (some 6) rfl (.int .i64 12) (fun _ => by kernel_rfl) ?_
  refine pl_val (want_no rfl) (some 7) rfl (.int .i64 (-12)) (fun _ => by kernel_rfl) ?_
  refine pl_call M (want_no rfl) (some 8) rfl 51 #[.int .u32 x, .int .i64 (-12)] (.int .u32 (rot x 12)) (fun _ => by kernel_rfl) (fun w M => c_rl12 x w M.laid) ?_
  intro u1 M
  refine pl_val (want_no rfl) (some 4) rfl (.int .u32 (rot x 12)) (fun _ => by kernel_rfl) ?_
  refine pl_nil ?_
  refine au_then ?_
  refine wp_ret ?_
  exact bodyPost_ret (v := .int .u32 (rot x 12)) (results_tmp1 Tryd.results46 _ _ _ (by kernel_rfl)) (by kernel_rfl) ⟨rfl, below_grown M.old⟩

set_option maxRecDepth 100000 in
set_option maxHeartbeats 4000000 in
theorem c_rl8 (x : Int) (w : World) (hL : Laid w)  :
    Calls Tryd.prog 51 #[.int .u32 x, .int .i64 (-8)] w fun r w' => r = .returned (.int .u32 (rot x 8)) ∧ Below w.heap.size w w' := by
  go_enter Tryd.func51, Tryd.ntmps51
  have M := Mem.start hL
  refine wp_seq ?_
  refine rg_lit ?_
  refine pl_val (want_no rfl) (some 4) rfl (.int .u32 0) (fun _ => by kernel_rfl) ?_
  refine pl_nil ?_
  refine au_then ?_
  refine wp_seq ?_
  refine rg_lit ?_
  refine pl_val (want_no rfl) (some 6) rfl (.int .i64 (-8)) (fun _ => by kernel_rfl) ?_
  refine pl_val (want_no rfl) (some 7) rfl (.int .u64 18446744073709551608) (fun _ => by kernel_rfl) ?_
  refine pl_val (want_no rfl) (some 8) rfl (.int .u64 24) (fun _ => by kernel_rfl) ?_
  refine pl_val (want_no rfl) (some 5) rfl (.int .u64 24) (fun _ => by kernel_rfl) ?_
  refine pl_nil ?_
  refine au_then ?_
  refine wp_seq ?_
  refine rg_lit ?_
  refine pl_val (want_no rfl) (some 9) rfl (.int .u32 x) (fun _ => by kernel_rfl) ?_
  refine pl_val (want_no rfl) (some 10) rfl (.int .u64 24) (fun _ => by kernel_rfl) ?_
  refine pl_val (want_no rfl) (some 11) rfl (.int .u32 (vl x 24)) (fun _ => by kernel_rfl) ?_
  refine pl_val (want_no rfl) (some 12) rfl (.int .u32 x) (fun _ => by kernel_rfl) ?_
  refine pl_val (want_no rfl) (some 13) rfl (.int .u64 24) (fun _ => by kernel_rfl) ?_
  refine pl_val (want_no rfl) (some 14) rfl (.int .u64 8) (fun _ => by kernel_rfl) ?_
  refine pl_val (want_no rfl) (some 15) rfl (.int .u32 (sr x 8)) (fun _ => by kernel_rfl) ?_
  refine pl_val (want_no rfl) (some 16) rfl (.int .u32 (vo (vl x 24) (sr x 8))) (fun _ => by kernel_rfl) ?_
  refine pl_val (want_no rfl) (some 4) rfl (.int .u32 (vo (vl x 24) (sr x 8))) (fun _ => by kernel_rfl) ?_
  refine pl_nil ?_
  refine au_then ?_
  refine wp_ret ?_
  exact bodyPost_ret (v := .int .u32 (vo (vl x 24) (sr x 8))) (results_tmp1 Tryd.results51 _ _ _ (by kernel_rfl)) (by kernel_rfl) ⟨rfl, below_grown M.old⟩

set_option maxRecDepth 100000 in
set_option maxHeartbeats 4000000 in
theorem c_turned8 (x : Int) (w : World) (hL : Laid w)  :
    Calls Tryd.prog 46 #[.int .u32 x, .int .i64 8] w fun r w' => r = .returned (.int .u32 (rot x 8)) ∧ Below w.heap.size w w' := by
  go_enter Tryd.func46, Tryd.ntmps46
  have M := Mem.start hL
  refine wp_seq ?_
  refine rg_lit ?_
  refine pl_val (want_no rfl) (some 4) rfl (.int .u32 0) (fun _ => by kernel_rfl) ?_
  refine pl_nil ?_
  refine au_then ?_
  refine wp_seq ?_
  refine rg_lit ?_
  refine pl_val (want_no rfl) (some 5) rfl (.int .u32 x) (fun _ => by kernel_rfl) ?_
  refine pl_val (want_no rfl) (some 6) rfl (.int .i64 8) (fun _ => by kernel_rfl) ?_
  refine pl_val (want_no rfl) (some 7) rfl (.int .i64 (-8)) (fun _ => by kernel_rfl) ?_
  refine pl_call M (want_no rfl) (some 8) rfl 51 #[.int .u32 x, .int .i64 (-8)] (.int .u32 (rot x 8)) (fun _ => by kernel_rfl) (fun w M => c_rl8 x w M.laid) ?_
  intro u1 M
  refine pl_val (want_no rfl) (some 4) rfl (.int .u32 (rot x 8)) (fun _ => by kernel_rfl) ?_
  refine pl_nil ?_
  refine au_then ?_
  refine wp_ret ?_
  exact bodyPost_ret (v := .int .u32 (rot x 8)) (results_tmp1 Tryd.results46 _ _ _ (by kernel_rfl)) (by kernel_rfl) ⟨rfl, below_grown M.old⟩

set_option maxRecDepth 100000 in
set_option maxHeartbeats 4000000 in
theorem c_rl7 (x : Int) (w : World) (hL : Laid w)  :
    Calls Tryd.prog 51 #[.int .u32 x, .int .i64 (-7)] w fun r w' => r = .returned (.int .u32 (rot x 7)) ∧ Below w.heap.size w w' := by
  go_enter Tryd.func51, Tryd.ntmps51
  have M := Mem.start hL
  refine wp_seq ?_
  refine rg_lit ?_
  refine pl_val (want_no rfl) (some 4) rfl (.int .u32 0) (fun _ => by kernel_rfl) ?_
  refine pl_nil ?_
  refine au_then ?_
  refine wp_seq ?_
  refine rg_lit ?_
  refine pl_val (want_no rfl) (some 6) rfl (.int .i64 (-7)) (fun _ => by kernel_rfl) ?_
  refine pl_val (want_no rfl) (some 7) rfl (.int .u64 18446744073709551609) (fun _ => by kernel_rfl) ?_
  refine pl_val (want_no rfl) (some 8) rfl (.int .u64 25) (fun _ => by kernel_rfl) ?_
  refine pl_val (want_no rfl) (some 5) rfl (.int .u64 25) (fun _ => by kernel_rfl) ?_
  refine pl_nil ?_
  refine au_then ?_
  refine wp_seq ?_
  refine rg_lit ?_
  refine pl_val (want_no rfl) (some 9) rfl (.int .u32 x) (fun _ => by kernel_rfl) ?_
  refine pl_val (want_no rfl) (some 10) rfl (.int .u64 25) (fun _ => by kernel_rfl) ?_
  refine pl_val (want_no rfl) (some 11) rfl (.int .u32 (vl x 25)) (fun _ => by kernel_rfl) ?_
  refine pl_val (want_no rfl) (some 12) rfl (.int .u32 x) (fun _ => by kernel_rfl) ?_
  refine pl_val (want_no rfl) (some 13) rfl (.int .u64 25) (fun _ => by kernel_rfl) ?_
  refine pl_val (want_no rfl) (some 14) rfl (.int .u64 7) (fun _ => by kernel_rfl) ?_
  refine pl_val (want_no rfl) (some 15) rfl (.int .u32 (sr x 7)) (fun _ => by kernel_rfl) ?_
  refine pl_val (want_no rfl) (some 16) rfl (.int .u32 (vo (vl x 25) (sr x 7))) (fun _ => by kernel_rfl) ?_
  refine pl_val (want_no rfl) (some 4) rfl (.int .u32 (vo (vl x 25) (sr x 7))) (fun _ => by kernel_rfl) ?_
  refine pl_nil ?_
  refine au_then ?_
  refine wp_ret ?_
  exact bodyPost_ret (v := .int .u32 (vo (vl x 25) (sr x 7))) (results_tmp1 Tryd.results51 _ _ _ (by kernel_rfl)) (by kernel_rfl) ⟨rfl, below_grown M.old⟩

set_option maxRecDepth 100000 in
set_option maxHeartbeats 4000000 in
theorem c_turned7 (x : Int) (w : World) (hL : Laid w)  :
    Calls Tryd.prog 46 #[.int .u32 x, .int .i64 7] w fun r w' => r = .returned (.int .u32 (rot x 7)) ∧ Below w.heap.size w w' := by
  go_enter Tryd.func46, Tryd.ntmps46
  have M := Mem.start hL
  refine wp_seq ?_
  refine rg_lit ?_
  refine pl_val (want_no rfl) (some 4) rfl (.int .u32 0) (fun _ => by kernel_rfl) ?_
  refine pl_nil ?_
  refine au_then ?_
  refine wp_seq ?_
  refine rg_lit ?_
  refine pl_val (want_no rfl) (some 5) rfl (.int .u32 x) (fun _ => by kernel_rfl) ?_
  refine pl_val (want_no rfl) (some 6) rfl (.int .i64 7) (fun _ => by kernel_rfl) ?_
  refine pl_val (want_no rfl) (some 7) rfl (.int .i64 (-7)) (fun _ => by kernel_rfl) ?_
  refine pl_call M (want_no rfl) (some 8) rfl 51 #[.int .u32 x, .int .i64 (-7)] (.int .u32 (rot x 7)) (fun _ => by kernel_rfl) (fun w M => c_rl7 x w M.laid) ?_
  intro u1 M
  refine pl_val (want_no rfl) (some 4) rfl (.int .u32 (rot x 7)) (fun _ => by kernel_rfl) ?_
  refine pl_nil ?_
  refine au_then ?_
  refine wp_ret ?_
  exact bodyPost_ret (v := .int .u32 (rot x 7)) (results_tmp1 Tryd.results46 _ _ _ (by kernel_rfl)) (by kernel_rfl) ⟨rfl, below_grown M.old⟩

set_option maxRecDepth 100000 in
set_option maxHeartbeats 4000000 in
theorem c_first  (w : World) (hL : Laid w)  :
    Calls Tryd.prog 35 #[] w fun r w' => r = .returned (.agg (av 8 (w32 HB))) ∧ Below w.heap.size w w' := by
  go_enter Tryd.func35, Tryd.ntmps35
  have M := Mem.start hL
  refine wp_seq ?_
  refine rg_lit ?_
  refine pl_new M (want_no rfl) (some 0) rfl (.cells (av 8 (w32 (fun _ => 0))) 57) (fun _ => by kernel_rfl) ?_
  intro g1 u1 M
  replace M : Mem ⟨w, []⟩ [⟨g1, .cells (av 8 (w32 (fun _ => 0))) 57⟩] u1 := M
  refine pl_nil ?_
  refine au_then ?_
  refine wp_seq ?_
  refine rg_lit ?_
  refine pl_val (want_no rfl) (some 1) rfl (.agg (av 8 (w32 HB))) (fun _ => by kernel_rfl) ?_
  refine pl_put M (want_no rfl) rfl 57 _ _ rfl 0 g1 0 (by kernel_rfl) 8 57 (w32 (fun _ => 0)) rfl 8 (w32 HB) (w32 HB) (by kernel_rfl) inz57 (by decide) (fun _ _ => rfl) (fun j hj => by rw [if_pos (by omega), Nat.sub_zero]) ?_
  intro u2 M
  replace M : Mem ⟨w, []⟩ [⟨g1, .cells (av 8 (w32 HB)) 57⟩] u2 := M
  refine pl_nil ?_
  refine au_then ?_
  refine wp_ret ?_
  exact bodyPost_ret (v := .agg (av 8 (w32 HB))) (results_cell_row Tryd.results35 _ _ g1 57 (av 8 (w32 HB)) (0, 0) _ (by kernel_rfl) (M.get 0 rfl) Tryd.underlying57 rfl (by rw [av_size]; exact inz57)) (by kernel_rfl) ⟨rfl, below_grown M.old⟩

set_option maxRecDepth 100000 in
set_option maxHeartbeats 4000000 in
theorem c_words (rs : Nat → Int) (g n cap : Nat) (hn : n ≤ 64) (w : World) (hL : Laid w) (hc : ∀ i, i < n → w.cell? ⟨g, i, none⟩ = some (.int .u8 (rs i))) :
    Calls Tryd.prog 43 #[.slice (some ⟨g, 0, none⟩) n cap] w fun r w' => r = .returned (.agg (av 16 (w32 (wo rs n)))) ∧ Below w.heap.size w w' := by
  go_enter Tryd.func43, Tryd.ntmps43
  have M := Mem.start hL
  refine wp_seq ?_
  refine rg_lit ?_
  refine pl_new M (want_no rfl) (some 2) rfl (.cells (av 16 (w32 (fun _ => 0))) 67) (fun _ => by kernel_rfl) ?_
  intro g1 u1 M
  replace M : Mem ⟨w, []⟩ [⟨g1, .cells (av 16 (w32 (fun _ => 0))) 67⟩] u1 := M
  refine pl_nil ?_
  refine au_then ?_
  refine wp_seq ?_
  refine rg_lit ?_
  refine pl_new M (want_no rfl) (some 3) rfl (.cells (av 16 (w32 (fun _ => 0))) 67) (fun _ => by kernel_rfl) ?_
  intro g2 u2 M
  replace M : Mem ⟨w, []⟩ [⟨g1, .cells (av 16 (w32 (fun _ => 0))) 67⟩, ⟨g2, .cells (av 16 (w32 (fun _ => 0))) 67⟩] u2 := M
  refine pl_nil ?_
  refine au_then ?_
  refine wp_seq ?_
  refine wp_seq ?_
  refine rg_lit ?_
  refine pl_val (want_no rfl) (some 6) rfl (.slice (some ⟨g, 0, none⟩) n cap) (fun _ => by kernel_rfl) ?_
  refine pl_val (want_no rfl) (some 7) rfl (.int .i64 (n : Int)) (fun _ => by kernel_rfl) ?_
  refine pl_val (want_no rfl) (some 8) rfl (.int .i64 0) (fun _ => by kernel_rfl) ?_
  refine pl_nil ?_
  refine au_then ?_
  refine wp_block ?_
  refine au_loop (fun j a w' => ∃ v1 : Nat → Value, a = ⟨#[.slice (some ⟨g, 0, none⟩) n cap, undef, .pointer (some ⟨g1, 0, none⟩), .pointer (some ⟨g2, 0, none⟩), v1 4, v1 5, .slice (some ⟨g, 0, none⟩) n cap, .int .i64 (n : Int), .int .i64 (j : Int), v1 9, v1 10, v1 11, v1 12, v1 13, v1 14, v1 15, v1 16, v1 17, v1 18, v1 19, v1 20, v1 21, v1 22, v1 23, v1 24, v1 25, undef], []⟩ ∧ Mem ⟨w, []⟩ [⟨g1, .cells (av 16 (w32 (fun _ => 0))) 67⟩, ⟨g2, .cells (av 16 (w32 (wo rs j))) 67⟩] w') n ⟨fun k_ => ([undef, undef, undef, undef, undef, undef, undef, undef, undef, undef, undef, undef, undef, undef, undef, undef, undef, undef, undef, undef, undef, undef] : List Value).getD (k_ - 4) undef, by kernel_rfl, M⟩ ?_ ?_
  · intro j a u0 hj hI
    obtain ⟨v1, rfl, M⟩ := hI
    refine wp_seq ?_
    refine rg_lit ?_
    refine pl_val (want_no rfl) (some 9) rfl (.bool true) (fun w => Eq.trans (b := .ok (.value (.bool (decide ((j : Int) < (n : Int))))) w) (by kernel_rfl) (by rw [decide_eq_true (by omega)])) ?_
    refine pl_nil ?_
    refine au_then ?_
    refine wp_seq ?_
    refine wp_cond_true (by kernel_rfl) ?_
    refine wp_skip ?_
    refine au_then ?_
    refine wp_seq ?_
    refine wp_block ?_
    refine wp_seq ?_
    refine rg_lit ?_
    refine pl_val (want_no rfl) (some 10) rfl (.int .i64 (j : Int)) (fun _ => by kernel_rfl) ?_
    refine pl_val (want_no rfl) (some 11) rfl (.pointer (some ⟨g, j, none⟩)) (fun w => Eq.trans (run_ixL 42 5 Tryd.underlying42 inz5 _ _ rfl g 0 n cap (by kernel_rfl) .i64 j (by kernel_rfl) hj w) (by rw [Nat.zero_add])) ?_
    refine pl_cell M (want_no rfl) (some 12) rfl 5 _ rfl g j (by kernel_rfl) (.int .u8 (rs j)) (fun _ => by kernel_rfl) (fun w M => M.oldc (hc j hj) (by simp)) ?_
    refine pl_val (want_no rfl) (some 4) rfl (.int .i64 (j : Int)) (fun _ => by kernel_rfl) ?_
    refine pl_val (want_no rfl) (some 5) rfl (.int .u8 (rs j)) (fun _ => by kernel_rfl) ?_
    refine pl_nil ?_
    refine au_then ?_
    refine rg_tail M 12 (by kernel_rfl) (by kernel_rfl) ?_
    simp only [List.take_succ_cons, List.take_zero]
    refine k_val (want_no rfl) (some 13) rfl (.int .i64 (j : Int)) (fun _ => by kernel_rfl) ?_
    refine k_val (want_no rfl) (some 14) rfl (.int .i64 ((j / 4 : Nat) : Int)) (fun w => Eq.trans (b := .ok (.value (.int .i64 (IntKind.wrap .i64 ((j : Int).tdiv 4)))) w) (by kernel_rfl) (by rw [quo4 j (by omega)])) ?_
    refine k_val (want_no rfl) (some 15) rfl (.pointer (some ⟨g2, ((j / 4 : Nat)), none⟩)) (run_ix1 67 16 56 Tryd.underlying67 inz56 _ _ rfl g2 (by kernel_rfl) .i64 ((j / 4 : Nat)) (by kernel_rfl) (by omega)) ?_
    refine k_cell M (want_no rfl) (some 16) rfl 56 _ rfl g2 ((j / 4 : Nat)) (by kernel_rfl) (.int .u32 ((wo rs j) ((j / 4 : Nat)))) (fun _ => by kernel_rfl) (fun w M => M.cell 1 rfl (by omega) rfl) ?_
    refine k_val (want_no rfl) (some 17) rfl (.int .u8 (rs j)) (fun _ => by kernel_rfl) ?_
    refine k_val (want_no rfl) (some 18) rfl (.int .u32 (cv .u32 (rs j))) (fun _ => by kernel_rfl) ?_
    refine k_val (want_no rfl) (some 19) rfl (.int .i64 (j : Int)) (fun _ => by kernel_rfl) ?_
    refine k_val (want_no rfl) (some 20) rfl (.int .i64 ((j % 4 : Nat) : Int)) (fun w => Eq.trans (b := .ok (.value (.int .i64 (Int.tmod (j : Int) 4))) w) (by kernel_rfl) (by rw [rem4 j])) ?_
    refine k_val (want_no rfl) (some 21) rfl (.int .i64 ((j % 4 * 8 : Nat) : Int)) (fun w => Eq.trans (b := .ok (.value (.int .i64 (IntKind.wrap .i64 (((j % 4 : Nat) : Int) * 8)))) w) (by kernel_rfl) (by rw [wrap64 (by omega) (by omega)]; congr 3 <;> omega)) ?_
    refine k_val (want_no rfl) (some 22) rfl (.int .u32 (vl (cv .u32 (rs j)) (j % 4 * 8))) (run_shlV 56 3 _ _ rfl _ .i64 (j % 4 * 8) (by kernel_rfl) (by kernel_rfl) (by omega)) ?_
    refine k_val (want_no rfl) (some 23) rfl (.int .u32 (vo ((wo rs j) ((j / 4 : Nat))) (vl (cv .u32 (rs j)) (j % 4 * 8)))) (fun _ => by kernel_rfl) ?_
    refine k_val (want_no rfl) (some 24) rfl (.pointer (some ⟨g2, ((j / 4 : Nat)), none⟩)) (run_ix1 67 16 56 Tryd.underlying67 inz56 _ _ rfl g2 (by kernel_rfl) .i64 ((j / 4 : Nat)) (by kernel_rfl) (by omega)) ?_
    refine kl_nil ?_
    intro u3 M
    replace M : Mem ⟨w, []⟩ [⟨g1, .cells (av 16 (w32 (fun _ => 0))) 67⟩, ⟨g2, .cells (av 16 (w32 (wo rs j))) 67⟩] u3 := M
    refine pl_put1 M (want_no rfl) rfl 56 _ _ rfl 1 g2 ((j / 4 : Nat)) (by kernel_rfl) 16 67 (w32 (wo rs j)) rfl (.int .u32 (vo ((wo rs j) ((j / 4 : Nat))) (vl (cv .u32 (rs j)) (j % 4 * 8)))) (w32 (upd (wo rs j) ((j / 4 : Nat)) (vo ((wo rs j) ((j / 4 : Nat))) (vl (cv .u32 (rs j)) (j % 4 * 8))))) (by kernel_rfl) inz56 (by omega) rfl rfl (fun j _ => put_w32 _ _ _ j) ?_
    intro u4 M
    replace M : Mem ⟨w, []⟩ [⟨g1, .cells (av 16 (w32 (fun _ => 0))) 67⟩, ⟨g2, .cells (av 16 (w32 (upd (wo rs j) ((j / 4 : Nat)) (vo ((wo rs j) ((j / 4 : Nat))) (vl (cv .u32 (rs j)) (j % 4 * 8)))))) 67⟩] u4 := M
    refine pl_nil ?_
    refine au_block ?_
    refine au_then ?_
    refine rg_lit ?_
    refine pl_val (want_no rfl) (some 25) rfl (.int .i64 ((j + 1 : Nat) : Int)) (fun w => Eq.trans (b := .ok (.value (.int .i64 (IntKind.wrap .i64 ((j : Int) + 1)))) w) (by kernel_rfl) (by rw [wrap64 (by omega) (by omega)]; congr 3)) ?_
    refine pl_val (want_no rfl) (some 8) rfl (.int .i64 ((j + 1 : Nat) : Int)) (fun _ => by kernel_rfl) ?_
    refine pl_nil ?_
    refine au_then ?_
    exact ⟨fun k_ => ([.int .i64 (j : Int), .int .u8 (rs j), undef, undef, undef, .bool true, .int .i64 (j : Int), .pointer (some ⟨g, j, none⟩), .int .u8 (rs j), .int .i64 (j : Int), .int .i64 ((j / 4 : Nat) : Int), .pointer (some ⟨g2, ((j / 4 : Nat)), none⟩), .int .u32 ((wo rs j) ((j / 4 : Nat))), .int .u8 (rs j), .int .u32 (cv .u32 (rs j)), .int .i64 (j : Int), .int .i64 ((j % 4 : Nat) : Int), .int .i64 ((j % 4 * 8 : Nat) : Int), .int .u32 (vl (cv .u32 (rs j)) (j % 4 * 8)), .int .u32 (vo ((wo rs j) ((j / 4 : Nat))) (vl (cv .u32 (rs j)) (j % 4 * 8))), .pointer (some ⟨g2, ((j / 4 : Nat)), none⟩), .int .i64 ((j + 1 : Nat) : Int)] : List Value).getD (k_ - 4) undef, by kernel_rfl, M⟩
  · intro a u0 hI
    obtain ⟨v1, rfl, M⟩ := hI
    refine wp_seq ?_
    refine rg_lit ?_
    refine pl_val (want_no rfl) (some 9) rfl (.bool false) (fun w => Eq.trans (b := .ok (.value (.bool (decide ((n : Int) < (n : Int))))) w) (by kernel_rfl) (by rw [decide_eq_false (by omega)])) ?_
    refine pl_nil ?_
    refine au_then ?_
    refine wp_seq ?_
    refine wp_cond_false (by kernel_rfl) ?_
    refine wp_exit ?_
    refine au_then_exit ?_
    refine au_then_exit ?_
    refine au_block_exit ?_
    refine au_then ?_
    refine wp_seq ?_
    refine rg_lit ?_
    refine pl_load M (want_no rfl) (some 26) rfl 67 _ rfl 1 g2 0 (by kernel_rfl) 16 67 (w32 (wo rs n)) rfl 16 (w32 (wo rs n)) (fun j _ => by rw [Nat.zero_add]) (by decide) _ Tryd.underlying67 rfl inz67 ?_
    refine pl_put M (want_no rfl) rfl 67 _ _ rfl 0 g1 0 (by kernel_rfl) 16 67 (w32 (fun _ => 0)) rfl 16 (w32 (wo rs n)) (w32 (wo rs n)) (by kernel_rfl) inz67 (by decide) (fun _ _ => rfl) (fun j hj => by rw [if_pos (by omega), Nat.sub_zero]) ?_
    intro u5 M
    replace M : Mem ⟨w, []⟩ [⟨g1, .cells (av 16 (w32 (wo rs n))) 67⟩, ⟨g2, .cells (av 16 (w32 (wo rs n))) 67⟩] u5 := M
    refine pl_nil ?_
    refine au_then ?_
    refine wp_ret ?_
    exact bodyPost_ret (v := .agg (av 16 (w32 (wo rs n)))) (results_cell_row Tryd.results43 _ _ g1 67 (av 16 (w32 (wo rs n))) (0, 0) _ (by kernel_rfl) (M.get 0 rfl) Tryd.underlying67 rfl (by rw [av_size]; exact inz67)) (by kernel_rfl) ⟨rfl, below_grown M.old⟩

def spA (x : Nat → Int) : Nat → Int := fun i => if i < 8 then x i else 0
theorem spA_cp (x : Nat → Int) : ∀ j, j < 16 → (if 0 ≤ j ∧ j < 0 + 8 then w32 x (0 + (j - 0)) else w32 (fun _ => 0) j) = w32 (spA x) j := fun j hj => by
  unfold w32 spA
  by_cases h : j < 8
  · rw [if_pos (by omega), if_pos h]
    congr 2
    omega
  · rw [if_neg (by omega), if_neg h]
theorem spB_cp (x : Nat → Int) : ∀ j, j < 16 → (if 8 ≤ j ∧ j < 8 + 8 then w32 HB (0 + (j - 8)) else w32 (spA x) j) = w32 (spB x) j := fun j hj => by
  unfold w32 spA spB
  by_cases h : j < 8
  · rw [if_neg (by omega), if_pos h, if_pos h]
  · rw [if_pos (by omega), if_neg h, Nat.zero_add]
set_option maxRecDepth 100000 in
set_option maxHeartbeats 4000000 in
theorem c_spread_true (x : Nat → Int) (ct : Int) (w : World) (hL : Laid w)  :
    Calls Tryd.prog 44 #[.agg (av 8 (w32 x)), .int .u64 ct, .bool true] w fun r w' => r = .returned (.agg (av 16 (w32 (spr x ct true)))) ∧ Below w.heap.size w w' := by
  go_enter Tryd.func44, Tryd.ntmps44
  have M := Mem.start hL
  refine wp_seq ?_
  refine rg_lit ?_
  refine pl_new M (want_no rfl) (some 3) rfl (.cells (av 8 (w32 x)) 57) (fun _ => by kernel_rfl) ?_
  intro g1 u1 M
  replace M : Mem ⟨w, []⟩ [⟨g1, .cells (av 8 (w32 x)) 57⟩] u1 := M
  refine pl_new M (want_no rfl) (some 6) rfl (.cells (av 16 (w32 (fun _ => 0))) 67) (fun _ => by kernel_rfl) ?_
  intro g2 u2 M
  replace M : Mem ⟨w, []⟩ [⟨g1, .cells (av 8 (w32 x)) 57⟩, ⟨g2, .cells (av 16 (w32 (fun _ => 0))) 67⟩] u2 := M
  refine pl_nil ?_
  refine au_then ?_
  refine wp_seq ?_
  refine rg_lit ?_
  refine pl_new M (want_no rfl) (some 7) rfl (.cells (av 16 (w32 (fun _ => 0))) 67) (fun _ => by kernel_rfl) ?_
  intro g3 u3 M
  replace M : Mem ⟨w, []⟩ [⟨g1, .cells (av 8 (w32 x)) 57⟩, ⟨g2, .cells (av 16 (w32 (fun _ => 0))) 67⟩, ⟨g3, .cells (av 16 (w32 (fun _ => 0))) 67⟩] u3 := M
  refine pl_nil ?_
  refine au_then ?_
  refine wp_seq ?_
  refine rg_lit ?_
  refine pl_call M (want_no rfl) (some 9) rfl 35 #[] (.agg (av 8 (w32 HB))) (fun _ => by kernel_rfl) (fun w M => c_first w M.laid) ?_
  intro u4 M
  refine pl_new M (want_no rfl) (some 8) rfl (.cells (av 8 (w32 (fun _ => 0))) 57) (fun _ => by kernel_rfl) ?_
  intro g4 u5 M
  replace M : Mem ⟨w, []⟩ [⟨g1, .cells (av 8 (w32 x)) 57⟩, ⟨g2, .cells (av 16 (w32 (fun _ => 0))) 67⟩, ⟨g3, .cells (av 16 (w32 (fun _ => 0))) 67⟩, ⟨g4, .cells (av 8 (w32 (fun _ => 0))) 57⟩] u5 := M
  refine pl_put M (want_no rfl) rfl 57 _ _ rfl 3 g4 0 (by kernel_rfl) 8 57 (w32 (fun _ => 0)) rfl 8 (w32 HB) (w32 HB) (by kernel_rfl) inz57 (by decide) (fun _ _ => rfl) (fun j hj => by rw [if_pos (by omega), Nat.sub_zero]) ?_
  intro u6 M
  replace M : Mem ⟨w, []⟩ [⟨g1, .cells (av 8 (w32 x)) 57⟩, ⟨g2, .cells (av 16 (w32 (fun _ => 0))) 67⟩, ⟨g3, .cells (av 16 (w32 (fun _ => 0))) 67⟩, ⟨g4, .cells (av 8 (w32 HB)) 57⟩] u6 := M
  refine pl_nil ?_
  refine au_then ?_
  refine wp_seq ?_
  refine rg_tail M 2 (by kernel_rfl) (by kernel_rfl) ?_
  simp only [List.take_succ_cons, List.take_zero]
  refine k_val (want_no rfl) (some 10) rfl (.slice (some ⟨g3, 0, none⟩) 8 16) (fun _ => by kernel_rfl) ?_
  refine k_val (want_no rfl) (some 11) rfl (.slice (some ⟨g1, 0, none⟩) 8 8) (fun _ => by kernel_rfl) ?_
  refine kl_nil ?_
  intro u7 M
  replace M : Mem ⟨w, []⟩ [⟨g1, .cells (av 8 (w32 x)) 57⟩, ⟨g2, .cells (av 16 (w32 (fun _ => 0))) 67⟩, ⟨g3, .cells (av 16 (w32 (fun _ => 0))) 67⟩, ⟨g4, .cells (av 8 (w32 HB)) 57⟩] u7 := M
  refine pl_copyB M (want_no rfl) (some 12) rfl 93 93 3 56 Tryd.underlying93 inz56 2 g3 16 67 (w32 (fun _ => 0)) rfl 0 g1 8 57 (w32 x) rfl 0 8 16 0 8 8 8 rfl (by decide) (by decide) (fun _ _ => rfl) (w32 (spA x)) (spA_cp x) (fun _ => by kernel_rfl) ?_
  intro u8 M
  replace M : Mem ⟨w, []⟩ [⟨g1, .cells (av 8 (w32 x)) 57⟩, ⟨g2, .cells (av 16 (w32 (fun _ => 0))) 67⟩, ⟨g3, .cells (av 16 (w32 (spA x))) 67⟩, ⟨g4, .cells (av 8 (w32 HB)) 57⟩] u8 := M
  refine pl_nil ?_
  refine au_then ?_
  refine wp_seq ?_
  refine rg_tail M 2 (by kernel_rfl) (by kernel_rfl) ?_
  simp only [List.take_succ_cons, List.take_zero]
  refine k_val (want_no rfl) (some 13) rfl (.slice (some ⟨g3, 8, none⟩) 8 8) (fun _ => by kernel_rfl) ?_
  refine k_val (want_no rfl) (some 14) rfl (.slice (some ⟨g4, 0, none⟩) 8 8) (fun _ => by kernel_rfl) ?_
  refine kl_nil ?_
  intro u9 M
  replace M : Mem ⟨w, []⟩ [⟨g1, .cells (av 8 (w32 x)) 57⟩, ⟨g2, .cells (av 16 (w32 (fun _ => 0))) 67⟩, ⟨g3, .cells (av 16 (w32 (spA x))) 67⟩, ⟨g4, .cells (av 8 (w32 HB)) 57⟩] u9 := M
  refine pl_copyB M (want_no rfl) (some 15) rfl 93 93 3 56 Tryd.underlying93 inz56 2 g3 16 67 (w32 (spA x)) rfl 3 g4 8 57 (w32 HB) rfl 8 8 8 0 8 8 8 rfl (by decide) (by decide) (fun _ _ => rfl) (w32 (spB x)) (spB_cp x) (fun _ => by kernel_rfl) ?_
  intro u10 M
  replace M : Mem ⟨w, []⟩ [⟨g1, .cells (av 8 (w32 x)) 57⟩, ⟨g2, .cells (av 16 (w32 (fun _ => 0))) 67⟩, ⟨g3, .cells (av 16 (w32 (spB x))) 67⟩, ⟨g4, .cells (av 8 (w32 HB)) 57⟩] u10 := M
  refine pl_nil ?_
  refine au_then ?_
  refine wp_seq ?_
  refine rg_lit ?_
  refine pl_val (want_no rfl) (some 16) rfl (.pointer (some ⟨g3, 12, none⟩)) (fun _ => by kernel_rfl) ?_
  refine pl_cell M (want_no rfl) (some 17) rfl 56 _ rfl g3 12 (by kernel_rfl) (.int .u32 ((spB x) 12)) (fun _ => by kernel_rfl) (fun w M => M.cell 2 rfl (by decide) rfl) ?_
  refine pl_val (want_no rfl) (some 18) rfl (.int .u64 ct) (fun _ => by kernel_rfl) ?_
  refine pl_val (want_no rfl) (some 19) rfl (.int .u32 (cv .u32 ct)) (fun _ => by kernel_rfl) ?_
  refine pl_val (want_no rfl) (some 20) rfl (.int .u32 (vx ((spB x) 12) (cv .u32 ct))) (fun _ => by kernel_rfl) ?_
  refine pl_val (want_no rfl) (some 21) rfl (.pointer (some ⟨g3, 12, none⟩)) (fun _ => by kernel_rfl) ?_
  refine pl_put1 M (want_no rfl) rfl 56 _ _ rfl 2 g3 12 (by kernel_rfl) 16 67 (w32 (spB x)) rfl (.int .u32 (vx ((spB x) 12) (cv .u32 ct))) (w32 (upd (spB x) 12 (vx ((spB x) 12) (cv .u32 ct)))) (by kernel_rfl) inz56 (by decide) rfl rfl (fun j _ => put_w32 _ _ _ j) ?_
  intro u11 M
  replace M : Mem ⟨w, []⟩ [⟨g1, .cells (av 8 (w32 x)) 57⟩, ⟨g2, .cells (av 16 (w32 (fun _ => 0))) 67⟩, ⟨g3, .cells (av 16 (w32 (upd (spB x) 12 (vx ((spB x) 12) (cv .u32 ct))))) 67⟩, ⟨g4, .cells (av 8 (w32 HB)) 57⟩] u11 := M
  refine pl_nil ?_
  refine au_then ?_
  refine wp_seq ?_
  refine rg_lit ?_
  refine pl_val (want_no rfl) (some 22) rfl (.pointer (some ⟨g3, 13, none⟩)) (fun _ => by kernel_rfl) ?_
  refine pl_cell M (want_no rfl) (some 23) rfl 56 _ rfl g3 13 (by kernel_rfl) (.int .u32 ((upd (spB x) 12 (vx ((spB x) 12) (cv .u32 ct))) 13)) (fun _ => by kernel_rfl) (fun w M => M.cell 2 rfl (by decide) rfl) ?_
  refine pl_val (want_no rfl) (some 24) rfl (.int .u64 ct) (fun _ => by kernel_rfl) ?_
  refine pl_val (want_no rfl) (some 25) rfl (.int .u64 (sr ct 32)) (fun _ => by kernel_rfl) ?_
  refine pl_val (want_no rfl) (some 26) rfl (.int .u32 (cv .u32 (sr ct 32))) (fun _ => by kernel_rfl) ?_
  refine pl_val (want_no rfl) (some 27) rfl (.int .u32 (vx ((upd (spB x) 12 (vx ((spB x) 12) (cv .u32 ct))) 13) (cv .u32 (sr ct 32)))) (fun _ => by kernel_rfl) ?_
  refine pl_val (want_no rfl) (some 28) rfl (.pointer (some ⟨g3, 13, none⟩)) (fun _ => by kernel_rfl) ?_
  refine pl_put1 M (want_no rfl) rfl 56 _ _ rfl 2 g3 13 (by kernel_rfl) 16 67 (w32 (upd (spB x) 12 (vx ((spB x) 12) (cv .u32 ct)))) rfl (.int .u32 (vx ((upd (spB x) 12 (vx ((spB x) 12) (cv .u32 ct))) 13) (cv .u32 (sr ct 32)))) (w32 (upd (upd (spB x) 12 (vx ((spB x) 12) (cv .u32 ct))) 13 (vx ((upd (spB x) 12 (vx ((spB x) 12) (cv .u32 ct))) 13) (cv .u32 (sr ct 32))))) (by kernel_rfl) inz56 (by decide) rfl rfl (fun j _ => put_w32 _ _ _ j) ?_
  intro u12 M
  replace M : Mem ⟨w, []⟩ [⟨g1, .cells (av 8 (w32 x)) 57⟩, ⟨g2, .cells (av 16 (w32 (fun _ => 0))) 67⟩, ⟨g3, .cells (av 16 (w32 (upd (upd (spB x) 12 (vx ((spB x) 12) (cv .u32 ct))) 13 (vx ((upd (spB x) 12 (vx ((spB x) 12) (cv .u32 ct))) 13) (cv .u32 (sr ct 32)))))) 67⟩, ⟨g4, .cells (av 8 (w32 HB)) 57⟩] u12 := M
  refine pl_nil ?_
  refine au_then ?_
  refine wp_seq ?_
  refine wp_seq ?_
  refine rg_lit ?_
  refine pl_val (want_no rfl) (some 29) rfl (.bool true) (fun _ => by kernel_rfl) ?_
  refine pl_nil ?_
  refine au_then ?_
  refine wp_cond_true (by kernel_rfl) ?_
  refine rg_lit ?_
  refine pl_val (want_no rfl) (some 30) rfl (.pointer (some ⟨g3, 14, none⟩)) (fun _ => by kernel_rfl) ?_
  refine pl_cell M (want_no rfl) (some 31) rfl 56 _ rfl g3 14 (by kernel_rfl) (.int .u32 ((upd (upd (spB x) 12 (vx ((spB x) 12) (cv .u32 ct))) 13 (vx ((upd (spB x) 12 (vx ((spB x) 12) (cv .u32 ct))) 13) (cv .u32 (sr ct 32)))) 14)) (fun _ => by kernel_rfl) (fun w M => M.cell 2 rfl (by decide) rfl) ?_
  refine pl_val (want_no rfl) (some 32) rfl (.int .u32 (vt ((upd (upd (spB x) 12 (vx ((spB x) 12) (cv .u32 ct))) 13 (vx ((upd (spB x) 12 (vx ((spB x) 12) (cv .u32 ct))) 13) (cv .u32 (sr ct 32)))) 14))) (fun _ => by kernel_rfl) ?_
  refine pl_val (want_no rfl) (some 33) rfl (.pointer (some ⟨g3, 14, none⟩)) (fun _ => by kernel_rfl) ?_
  refine pl_put1 M (want_no rfl) rfl 56 _ _ rfl 2 g3 14 (by kernel_rfl) 16 67 (w32 (upd (upd (spB x) 12 (vx ((spB x) 12) (cv .u32 ct))) 13 (vx ((upd (spB x) 12 (vx ((spB x) 12) (cv .u32 ct))) 13) (cv .u32 (sr ct 32))))) rfl (.int .u32 (vt ((upd (upd (spB x) 12 (vx ((spB x) 12) (cv .u32 ct))) 13 (vx ((upd (spB x) 12 (vx ((spB x) 12) (cv .u32 ct))) 13) (cv .u32 (sr ct 32)))) 14))) (w32 (upd (upd (upd (spB x) 12 (vx ((spB x) 12) (cv .u32 ct))) 13 (vx ((upd (spB x) 12 (vx ((spB x) 12) (cv .u32 ct))) 13) (cv .u32 (sr ct 32)))) 14 (vt ((upd (upd (spB x) 12 (vx ((spB x) 12) (cv .u32 ct))) 13 (vx ((upd (spB x) 12 (vx ((spB x) 12) (cv .u32 ct))) 13) (cv .u32 (sr ct 32)))) 14)))) (by kernel_rfl) inz56 (by decide) rfl rfl (fun j _ => put_w32 _ _ _ j) ?_
  intro u13 M
  replace M : Mem ⟨w, []⟩ [⟨g1, .cells (av 8 (w32 x)) 57⟩, ⟨g2, .cells (av 16 (w32 (fun _ => 0))) 67⟩, ⟨g3, .cells (av 16 (w32 (upd (upd (upd (spB x) 12 (vx ((spB x) 12) (cv .u32 ct))) 13 (vx ((upd (spB x) 12 (vx ((spB x) 12) (cv .u32 ct))) 13) (cv .u32 (sr ct 32)))) 14 (vt ((upd (upd (spB x) 12 (vx ((spB x) 12) (cv .u32 ct))) 13 (vx ((upd (spB x) 12 (vx ((spB x) 12) (cv .u32 ct))) 13) (cv .u32 (sr ct 32)))) 14))))) 67⟩, ⟨g4, .cells (av 8 (w32 HB)) 57⟩] u13 := M
  refine pl_nil ?_
  refine au_then ?_
  refine wp_seq ?_
  refine rg_lit ?_
  refine pl_load M (want_no rfl) (some 34) rfl 67 _ rfl 2 g3 0 (by kernel_rfl) 16 67 (w32 (upd (upd (upd (spB x) 12 (vx ((spB x) 12) (cv .u32 ct))) 13 (vx ((upd (spB x) 12 (vx ((spB x) 12) (cv .u32 ct))) 13) (cv .u32 (sr ct 32)))) 14 (vt ((upd (upd (spB x) 12 (vx ((spB x) 12) (cv .u32 ct))) 13 (vx ((upd (spB x) 12 (vx ((spB x) 12) (cv .u32 ct))) 13) (cv .u32 (sr ct 32)))) 14)))) rfl 16 (w32 (upd (upd (upd (spB x) 12 (vx ((spB x) 12) (cv .u32 ct))) 13 (vx ((upd (spB x) 12 (vx ((spB x) 12) (cv .u32 ct))) 13) (cv .u32 (sr ct 32)))) 14 (vt ((upd (upd (spB x) 12 (vx ((spB x) 12) (cv .u32 ct))) 13 (vx ((upd (spB x) 12 (vx ((spB x) 12) (cv .u32 ct))) 13) (cv .u32 (sr ct 32)))) 14)))) (fun j _ => by rw [Nat.zero_add]) (by decide) _ Tryd.underlying67 rfl inz67 ?_
  refine pl_put M (want_no rfl) rfl 67 _ _ rfl 1 g2 0 (by kernel_rfl) 16 67 (w32 (fun _ => 0)) rfl 16 (w32 (upd (upd (upd (spB x) 12 (vx ((spB x) 12) (cv .u32 ct))) 13 (vx ((upd (spB x) 12 (vx ((spB x) 12) (cv .u32 ct))) 13) (cv .u32 (sr ct 32)))) 14 (vt ((upd (upd (spB x) 12 (vx ((spB x) 12) (cv .u32 ct))) 13 (vx ((upd (spB x) 12 (vx ((spB x) 12) (cv .u32 ct))) 13) (cv .u32 (sr ct 32)))) 14)))) (w32 (upd (upd (upd (spB x) 12 (vx ((spB x) 12) (cv .u32 ct))) 13 (vx ((upd (spB x) 12 (vx ((spB x) 12) (cv .u32 ct))) 13) (cv .u32 (sr ct 32)))) 14 (vt ((upd (upd (spB x) 12 (vx ((spB x) 12) (cv .u32 ct))) 13 (vx ((upd (spB x) 12 (vx ((spB x) 12) (cv .u32 ct))) 13) (cv .u32 (sr ct 32)))) 14)))) (by kernel_rfl) inz67 (by decide) (fun _ _ => rfl) (fun j hj => by rw [if_pos (by omega), Nat.sub_zero]) ?_
  intro u14 M
  replace M : Mem ⟨w, []⟩ [⟨g1, .cells (av 8 (w32 x)) 57⟩, ⟨g2, .cells (av 16 (w32 (upd (upd (upd (spB x) 12 (vx ((spB x) 12) (cv .u32 ct))) 13 (vx ((upd (spB x) 12 (vx ((spB x) 12) (cv .u32 ct))) 13) (cv .u32 (sr ct 32)))) 14 (vt ((upd (upd (spB x) 12 (vx ((spB x) 12) (cv .u32 ct))) 13 (vx ((upd (spB x) 12 (vx ((spB x) 12) (cv .u32 ct))) 13) (cv .u32 (sr ct 32)))) 14))))) 67⟩, ⟨g3, .cells (av 16 (w32 (upd (upd (upd (spB x) 12 (vx ((spB x) 12) (cv .u32 ct))) 13 (vx ((upd (spB x) 12 (vx ((spB x) 12) (cv .u32 ct))) 13) (cv .u32 (sr ct 32)))) 14 (vt ((upd (upd (spB x) 12 (vx ((spB x) 12) (cv .u32 ct))) 13 (vx ((upd (spB x) 12 (vx ((spB x) 12) (cv .u32 ct))) 13) (cv .u32 (sr ct 32)))) 14))))) 67⟩, ⟨g4, .cells (av 8 (w32 HB)) 57⟩] u14 := M
  refine pl_nil ?_
  refine au_then ?_
  refine wp_ret ?_
  exact bodyPost_ret (v := .agg (av 16 (w32 (spr x ct true)))) (results_cell_row Tryd.results44 _ _ g2 67 (av 16 (w32 (upd (upd (upd (spB x) 12 (vx ((spB x) 12) (cv .u32 ct))) 13 (vx ((upd (spB x) 12 (vx ((spB x) 12) (cv .u32 ct))) 13) (cv .u32 (sr ct 32)))) 14 (vt ((upd (upd (spB x) 12 (vx ((spB x) 12) (cv .u32 ct))) 13 (vx ((upd (spB x) 12 (vx ((spB x) 12) (cv .u32 ct))) 13) (cv .u32 (sr ct 32)))) 14))))) (0, 0) _ (by kernel_rfl) (M.get 1 rfl) Tryd.underlying67 rfl (by rw [av_size]; exact inz67)) (by kernel_rfl) ⟨rfl, below_grown M.old⟩

set_option maxRecDepth 100000 in
set_option maxHeartbeats 4000000 in
theorem c_spread_false (x : Nat → Int) (ct : Int) (w : World) (hL : Laid w)  :
    Calls Tryd.prog 44 #[.agg (av 8 (w32 x)), .int .u64 ct, .bool false] w fun r w' => r = .returned (.agg (av 16 (w32 (spr x ct false)))) ∧ Below w.heap.size w w' := by
  go_enter Tryd.func44, Tryd.ntmps44
  have M := Mem.start hL
  refine wp_seq ?_
  refine rg_lit ?_
  refine pl_new M (want_no rfl) (some 3) rfl (.cells (av 8 (w32 x)) 57) (fun _ => by kernel_rfl) ?_
  intro g1 u1 M
  replace M : Mem ⟨w, []⟩ [⟨g1, .cells (av 8 (w32 x)) 57⟩] u1 := M
  refine pl_new M (want_no rfl) (some 6) rfl (.cells (av 16 (w32 (fun _ => 0))) 67) (fun _ => by kernel_rfl) ?_
  intro g2 u2 M
  replace M : Mem ⟨w, []⟩ [⟨g1, .cells (av 8 (w32 x)) 57⟩, ⟨g2, .cells (av 16 (w32 (fun _ => 0))) 67⟩] u2 := M
  refine pl_nil ?_
  refine au_then ?_
  refine wp_seq ?_
  refine rg_lit ?_
  refine pl_new M (want_no rfl) (some 7) rfl (.cells (av 16 (w32 (fun _ => 0))) 67) (fun _ => by kernel_rfl) ?_
  intro g3 u3 M
  replace M : Mem ⟨w, []⟩ [⟨g1, .cells (av 8 (w32 x)) 57⟩, ⟨g2, .cells (av 16 (w32 (fun _ => 0))) 67⟩, ⟨g3, .cells (av 16 (w32 (fun _ => 0))) 67⟩] u3 := M
  refine pl_nil ?_
  refine au_then ?_
  refine wp_seq ?_
  refine rg_lit ?_
  refine pl_call M (want_no rfl) (some 9) rfl 35 #[] (.agg (av 8 (w32 HB))) (fun _ => by kernel_rfl) (fun w M => c_first w M.laid) ?_
  intro u4 M
  refine pl_new M (want_no rfl) (some 8) rfl (.cells (av 8 (w32 (fun _ => 0))) 57) (fun _ => by kernel_rfl) ?_
  intro g4 u5 M
  replace M : Mem ⟨w, []⟩ [⟨g1, .cells (av 8 (w32 x)) 57⟩, ⟨g2, .cells (av 16 (w32 (fun _ => 0))) 67⟩, ⟨g3, .cells (av 16 (w32 (fun _ => 0))) 67⟩, ⟨g4, .cells (av 8 (w32 (fun _ => 0))) 57⟩] u5 := M
  refine pl_put M (want_no rfl) rfl 57 _ _ rfl 3 g4 0 (by kernel_rfl) 8 57 (w32 (fun _ => 0)) rfl 8 (w32 HB) (w32 HB) (by kernel_rfl) inz57 (by decide) (fun _ _ => rfl) (fun j hj => by rw [if_pos (by omega), Nat.sub_zero]) ?_
  intro u6 M
  replace M : Mem ⟨w, []⟩ [⟨g1, .cells (av 8 (w32 x)) 57⟩, ⟨g2, .cells (av 16 (w32 (fun _ => 0))) 67⟩, ⟨g3, .cells (av 16 (w32 (fun _ => 0))) 67⟩, ⟨g4, .cells (av 8 (w32 HB)) 57⟩] u6 := M
  refine pl_nil ?_
  refine au_then ?_
  refine wp_seq ?_
  refine rg_tail M 2 (by kernel_rfl) (by kernel_rfl) ?_
  simp only [List.take_succ_cons, List.take_zero]
  refine k_val (want_no rfl) (some 10) rfl (.slice (some ⟨g3, 0, none⟩) 8 16) (fun _ => by kernel_rfl) ?_
  refine k_val (want_no rfl) (some 11) rfl (.slice (some ⟨g1, 0, none⟩) 8 8) (fun _ => by kernel_rfl) ?_
  refine kl_nil ?_
  intro u7 M
  replace M : Mem ⟨w, []⟩ [⟨g1, .cells (av 8 (w32 x)) 57⟩, ⟨g2, .cells (av 16 (w32 (fun _ => 0))) 67⟩, ⟨g3, .cells (av 16 (w32 (fun _ => 0))) 67⟩, ⟨g4, .cells (av 8 (w32 HB)) 57⟩] u7 := M
  refine pl_copyB M (want_no rfl) (some 12) rfl 93 93 3 56 Tryd.underlying93 inz56 2 g3 16 67 (w32 (fun _ => 0)) rfl 0 g1 8 57 (w32 x) rfl 0 8 16 0 8 8 8 rfl (by decide) (by decide) (fun _ _ => rfl) (w32 (spA x)) (spA_cp x) (fun _ => by kernel_rfl) ?_
  intro u8 M
  replace M : Mem ⟨w, []⟩ [⟨g1, .cells (av 8 (w32 x)) 57⟩, ⟨g2, .cells (av 16 (w32 (fun _ => 0))) 67⟩, ⟨g3, .cells (av 16 (w32 (spA x))) 67⟩, ⟨g4, .cells (av 8 (w32 HB)) 57⟩] u8 := M
  refine pl_nil ?_
  refine au_then ?_
  refine wp_seq ?_
  refine rg_tail M 2 (by kernel_rfl) (by kernel_rfl) ?_
  simp only [List.take_succ_cons, List.take_zero]
  refine k_val (want_no rfl) (some 13) rfl (.slice (some ⟨g3, 8, none⟩) 8 8) (fun _ => by kernel_rfl) ?_
  refine k_val (want_no rfl) (some 14) rfl (.slice (some ⟨g4, 0, none⟩) 8 8) (fun _ => by kernel_rfl) ?_
  refine kl_nil ?_
  intro u9 M
  replace M : Mem ⟨w, []⟩ [⟨g1, .cells (av 8 (w32 x)) 57⟩, ⟨g2, .cells (av 16 (w32 (fun _ => 0))) 67⟩, ⟨g3, .cells (av 16 (w32 (spA x))) 67⟩, ⟨g4, .cells (av 8 (w32 HB)) 57⟩] u9 := M
  refine pl_copyB M (want_no rfl) (some 15) rfl 93 93 3 56 Tryd.underlying93 inz56 2 g3 16 67 (w32 (spA x)) rfl 3 g4 8 57 (w32 HB) rfl 8 8 8 0 8 8 8 rfl (by decide) (by decide) (fun _ _ => rfl) (w32 (spB x)) (spB_cp x) (fun _ => by kernel_rfl) ?_
  intro u10 M
  replace M : Mem ⟨w, []⟩ [⟨g1, .cells (av 8 (w32 x)) 57⟩, ⟨g2, .cells (av 16 (w32 (fun _ => 0))) 67⟩, ⟨g3, .cells (av 16 (w32 (spB x))) 67⟩, ⟨g4, .cells (av 8 (w32 HB)) 57⟩] u10 := M
  refine pl_nil ?_
  refine au_then ?_
  refine wp_seq ?_
  refine rg_lit ?_
  refine pl_val (want_no rfl) (some 16) rfl (.pointer (some ⟨g3, 12, none⟩)) (fun _ => by kernel_rfl) ?_
  refine pl_cell M (want_no rfl) (some 17) rfl 56 _ rfl g3 12 (by kernel_rfl) (.int .u32 ((spB x) 12)) (fun _ => by kernel_rfl) (fun w M => M.cell 2 rfl (by decide) rfl) ?_
  refine pl_val (want_no rfl) (some 18) rfl (.int .u64 ct) (fun _ => by kernel_rfl) ?_
  refine pl_val (want_no rfl) (some 19) rfl (.int .u32 (cv .u32 ct)) (fun _ => by kernel_rfl) ?_
  refine pl_val (want_no rfl) (some 20) rfl (.int .u32 (vx ((spB x) 12) (cv .u32 ct))) (fun _ => by kernel_rfl) ?_
  refine pl_val (want_no rfl) (some 21) rfl (.pointer (some ⟨g3, 12, none⟩)) (fun _ => by kernel_rfl) ?_
  refine pl_put1 M (want_no rfl) rfl 56 _ _ rfl 2 g3 12 (by kernel_rfl) 16 67 (w32 (spB x)) rfl (.int .u32 (vx ((spB x) 12) (cv .u32 ct))) (w32 (upd (spB x) 12 (vx ((spB x) 12) (cv .u32 ct)))) (by kernel_rfl) inz56 (by decide) rfl rfl (fun j _ => put_w32 _ _ _ j) ?_
  intro u11 M
  replace M : Mem ⟨w, []⟩ [⟨g1, .cells (av 8 (w32 x)) 57⟩, ⟨g2, .cells (av 16 (w32 (fun _ => 0))) 67⟩, ⟨g3, .cells (av 16 (w32 (upd (spB x) 12 (vx ((spB x) 12) (cv .u32 ct))))) 67⟩, ⟨g4, .cells (av 8 (w32 HB)) 57⟩] u11 := M
  refine pl_nil ?_
  refine au_then ?_
  refine wp_seq ?_
  refine rg_lit ?_
  refine pl_val (want_no rfl) (some 22) rfl (.pointer (some ⟨g3, 13, none⟩)) (fun _ => by kernel_rfl) ?_
  refine pl_cell M (want_no rfl) (some 23) rfl 56 _ rfl g3 13 (by kernel_rfl) (.int .u32 ((upd (spB x) 12 (vx ((spB x) 12) (cv .u32 ct))) 13)) (fun _ => by kernel_rfl) (fun w M => M.cell 2 rfl (by decide) rfl) ?_
  refine pl_val (want_no rfl) (some 24) rfl (.int .u64 ct) (fun _ => by kernel_rfl) ?_
  refine pl_val (want_no rfl) (some 25) rfl (.int .u64 (sr ct 32)) (fun _ => by kernel_rfl) ?_
  refine pl_val (want_no rfl) (some 26) rfl (.int .u32 (cv .u32 (sr ct 32))) (fun _ => by kernel_rfl) ?_
  refine pl_val (want_no rfl) (some 27) rfl (.int .u32 (vx ((upd (spB x) 12 (vx ((spB x) 12) (cv .u32 ct))) 13) (cv .u32 (sr ct 32)))) (fun _ => by kernel_rfl) ?_
  refine pl_val (want_no rfl) (some 28) rfl (.pointer (some ⟨g3, 13, none⟩)) (fun _ => by kernel_rfl) ?_
  refine pl_put1 M (want_no rfl) rfl 56 _ _ rfl 2 g3 13 (by kernel_rfl) 16 67 (w32 (upd (spB x) 12 (vx ((spB x) 12) (cv .u32 ct)))) rfl (.int .u32 (vx ((upd (spB x) 12 (vx ((spB x) 12) (cv .u32 ct))) 13) (cv .u32 (sr ct 32)))) (w32 (upd (upd (spB x) 12 (vx ((spB x) 12) (cv .u32 ct))) 13 (vx ((upd (spB x) 12 (vx ((spB x) 12) (cv .u32 ct))) 13) (cv .u32 (sr ct 32))))) (by kernel_rfl) inz56 (by decide) rfl rfl (fun j _ => put_w32 _ _ _ j) ?_
  intro u12 M
  replace M : Mem ⟨w, []⟩ [⟨g1, .cells (av 8 (w32 x)) 57⟩, ⟨g2, .cells (av 16 (w32 (fun _ => 0))) 67⟩, ⟨g3, .cells (av 16 (w32 (upd (upd (spB x) 12 (vx ((spB x) 12) (cv .u32 ct))) 13 (vx ((upd (spB x) 12 (vx ((spB x) 12) (cv .u32 ct))) 13) (cv .u32 (sr ct 32)))))) 67⟩, ⟨g4, .cells (av 8 (w32 HB)) 57⟩] u12 := M
  refine pl_nil ?_
  refine au_then ?_
  refine wp_seq ?_
  refine wp_seq ?_
  refine rg_lit ?_
  refine pl_val (want_no rfl) (some 29) rfl (.bool false) (fun _ => by kernel_rfl) ?_
  refine pl_nil ?_
  refine au_then ?_
  refine wp_cond_false (by kernel_rfl) ?_
  refine wp_skip ?_
  refine au_then ?_
  refine wp_seq ?_
  refine rg_lit ?_
  refine pl_load M (want_no rfl) (some 34) rfl 67 _ rfl 2 g3 0 (by kernel_rfl) 16 67 (w32 (upd (upd (spB x) 12 (vx ((spB x) 12) (cv .u32 ct))) 13 (vx ((upd (spB x) 12 (vx ((spB x) 12) (cv .u32 ct))) 13) (cv .u32 (sr ct 32))))) rfl 16 (w32 (upd (upd (spB x) 12 (vx ((spB x) 12) (cv .u32 ct))) 13 (vx ((upd (spB x) 12 (vx ((spB x) 12) (cv .u32 ct))) 13) (cv .u32 (sr ct 32))))) (fun j _ => by rw [Nat.zero_add]) (by decide) _ Tryd.underlying67 rfl inz67 ?_
  refine pl_put M (want_no rfl) rfl 67 _ _ rfl 1 g2 0 (by kernel_rfl) 16 67 (w32 (fun _ => 0)) rfl 16 (w32 (upd (upd (spB x) 12 (vx ((spB x) 12) (cv .u32 ct))) 13 (vx ((upd (spB x) 12 (vx ((spB x) 12) (cv .u32 ct))) 13) (cv .u32 (sr ct 32))))) (w32 (upd (upd (spB x) 12 (vx ((spB x) 12) (cv .u32 ct))) 13 (vx ((upd (spB x) 12 (vx ((spB x) 12) (cv .u32 ct))) 13) (cv .u32 (sr ct 32))))) (by kernel_rfl) inz67 (by decide) (fun _ _ => rfl) (fun j hj => by rw [if_pos (by omega), Nat.sub_zero]) ?_
  intro u13 M
  replace M : Mem ⟨w, []⟩ [⟨g1, .cells (av 8 (w32 x)) 57⟩, ⟨g2, .cells (av 16 (w32 (upd (upd (spB x) 12 (vx ((spB x) 12) (cv .u32 ct))) 13 (vx ((upd (spB x) 12 (vx ((spB x) 12) (cv .u32 ct))) 13) (cv .u32 (sr ct 32)))))) 67⟩, ⟨g3, .cells (av 16 (w32 (upd (upd (spB x) 12 (vx ((spB x) 12) (cv .u32 ct))) 13 (vx ((upd (spB x) 12 (vx ((spB x) 12) (cv .u32 ct))) 13) (cv .u32 (sr ct 32)))))) 67⟩, ⟨g4, .cells (av 8 (w32 HB)) 57⟩] u13 := M
  refine pl_nil ?_
  refine au_then ?_
  refine wp_ret ?_
  exact bodyPost_ret (v := .agg (av 16 (w32 (spr x ct false)))) (results_cell_row Tryd.results44 _ _ g2 67 (av 16 (w32 (upd (upd (spB x) 12 (vx ((spB x) 12) (cv .u32 ct))) 13 (vx ((upd (spB x) 12 (vx ((spB x) 12) (cv .u32 ct))) 13) (cv .u32 (sr ct 32)))))) (0, 0) _ (by kernel_rfl) (M.get 1 rfl) Tryd.underlying67 rfl (by rw [av_size]; exact inz67)) (by kernel_rfl) ⟨rfl, below_grown M.old⟩

theorem c_spread (x : Nat → Int) (ct : Int) (last : Bool) (w : World) (hL : Laid w) : Calls Tryd.prog 44 #[.agg (av 8 (w32 x)), .int .u64 ct, .bool last] w fun r w' => r = .returned (.agg (av 16 (w32 (spr x ct last)))) ∧ Below w.heap.size w w' := by
  cases last
  · exact c_spread_false x ct w hL
  · exact c_spread_true x ct w hL

end Go.Proofs.YtpfneekmbednoaaDoor
