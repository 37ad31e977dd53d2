/- Each text is opened once at most, as it was sealed: TunnelOnce. -/
import Derived.Test.YtenafinbaanicaaDoorT5
import Derived.Test.YtenafinbaanicaaDoorS0
namespace Go.Proofs.YtenafinbaanicaaDoor
open Go.RowKit
set_option maxRecDepth 100000

theorem run_ixK {P : Program} {a : Act} {o : Oper} (t elem K : TypeId) (hu : P.underlying t = some (.slice elem)) (hs : (P.info? elem).map (·.size) = some K) (x ix : Operand) (ho : o.op = .indexAddr t x ix) (l : Option Addr) (g off len cap : Nat) (hx : a.eval x = .slice l len cap) (hl : l = some ⟨g, off, none⟩) (k : IntKind) (i : Nat) (hi : a.eval ix = .int k (i : Int)) (hlt : i < len) (w : World) :
    (execOp a.eval o).run P w = .ok (.value (.pointer (some ⟨g, off + i * K, none⟩))) w := by
  subst hl
  cases hq : P.info? elem with
  | none => simp [hq] at hs
  | some info =>
    have hsz : info.size = K := by simpa [hq] using hs
    unfold execOp
    simp [ho, hx, hi, Instr.indexAt, asIntOf, run_underlying hu, sizeOf, typeInfo, hq, hsz, add_at, hlt]

theorem run_remN {P : Program} {a : Act} {o : Oper} (t rt : TypeId) (x y : Operand) (ho : o.op = .binOp .rem t x y rt) (m d : Nat) (hx : a.eval x = .int .i64 (m : Int)) (hy : a.eval y = .int .i64 (d : Int)) (hd : 0 < d) (w : World) :
    (execOp a.eval o).run P w = .ok (.value (.int .i64 ((m % d : Nat) : Int))) w := by
  have h0 : ¬ d = 0 := by omega
  have e : Int.tmod (m : Int) (d : Int) = (m : Int) % (d : Int) := rfl
  unfold execOp
  simp [ho, hx, hy, eqGuard, binOp, Op.intDiv, h0, e]
theorem info3 : InfoIs Tryd.prog 3 (.int .i64 0) := infoIs (b := 8) (by kernel_rfl) (by kernel_rfl) (by kernel_rfl) (by decide)
section
variable {ops : Array Oper} {rest : List Oper} {o : Oper} {a : Act} {w : World} {c : Ctx} {L : List Blk} {Q : Exit → Act → World → Prop}
theorem pl_makeI (M : Mem c L w) (hw : Region.wanted o (yielded ops a.tmps) = true) (d : Option Tmp) (hd : o.dst = d) (x y : Operand) (ho : o.op = .makeSlice 40 x y) (n : Nat) (hx : a.eval x = .int .i64 (n : Int)) (hy : a.eval y = .int .i64 (n : Int)) (hc : n < 1000000)
    (h : ∀ g w', Mem c (L ++ [⟨g, .cells (av n (wi (fun _ => 0))) 3⟩]) w' → PL Tryd.prog ops Q rest (a.put d (.slice (some ⟨g, 0, none⟩) n n)) w') : PL Tryd.prog ops Q (o :: rest) a w := by
  obtain ⟨info, i1, i2, i3, i4⟩ := info3
  have hr := run_make (P := Tryd.prog) w 40 3 info (.int .i64 0) Tryd.underlying40 i1 i2 .i64 .i64 (n : Int) (n : Int) (by omega) (by omega) (by
    have := Int.mul_le_mul (show (info.bytes : Int) ≤ 16 by omega) (show (n : Int) ≤ 1000000 by omega) (by omega) (by omega)
    omega) (by omega)
  simp only [Int.toNat_natCast, i3, Nat.mul_one] at hr
  have e : madeCells (Value.int .i64 0).cells n = av n (wi (fun _ => 0)) := by
    apply Array.ext_getElem?
    intro i
    by_cases hi : i < n
    · rw [av_get n _ i hi]
      simp [madeCells, hi, wi, Value.cells, Nat.mod_one]
    · rw [Array.getElem?_eq_none (by simp [madeCells]; omega), Array.getElem?_eq_none (by simp [av_size]; omega)]
  rw [e] at hr
  refine pl_to hw d hd (.slice (some ⟨w.heap.size, 0, none⟩) n n) _ ?_ (h w.heap.size (w.alloc (.cells (av n (wi (fun _ => 0))) 3)) (M.new _ _ (new_below w _) (heap_alloc_new w _) (Nat.le_refl _)))
  unfold execOp
  simp only [ho, hx, hy, Sem.run_bind, Sem.run_pure]
  rw [hr]
  rfl
end
def tot (Y : Nat → ByteArray) : Nat → Nat
  | 0 => 0
  | j + 1 => tot Y j + 8 + (Y j).size
theorem tot_succ (Y : Nat → ByteArray) (j : Nat) : ((tot Y j : Nat) : Int) + 8 + ((Y j).size : Int) = ((tot Y (j + 1) : Nat) : Int) := by
  show _ = ((tot Y j + 8 + (Y j).size : Nat) : Int)
  omega
theorem tot_ge (Y : Nat → ByteArray) : ∀ n j, j < n → (Y j).size + 8 ≤ tot Y n
  | 0, j, h => absurd h (by omega)
  | n + 1, j, h => by
    show _ ≤ tot Y n + 8 + (Y n).size
    by_cases e : j = n
    · subst e
      omega
    · have := tot_ge Y n j (by omega)
      omega
theorem tot_len (Y : Nat → ByteArray) : ∀ n, 8 * n ≤ tot Y n
  | 0 => by simp
  | n + 1 => by
    show _ ≤ tot Y n + 8 + (Y n).size
    have := tot_len Y n
    omega
theorem cv_i64 {x : Int} (h0 : -9223372036854775808 ≤ x) (h1 : x < 9223372036854775808) : cv .i64 x = x := wrap64 h0 h1
theorem s_over {p : Nat} {x : TS} {T : List Blk} {n : Nat} {s : ByteArray} (hI : IsT p x T) (ok : x.Ok) (hn : n < 18446744073709551616) (h : x.sF n = 180) (w : World) (hL : Laid w) (hT : There w T) : Calls Tryd.prog 8 #[.pointer (some ⟨p, 0, none⟩), .int .u64 (n : Int), .string s] w fun r w' => ∃ T', r = .returned (.tuple #[.int .u64 0, .string ⟨#[]⟩, .int .i64 180]) ∧ IsT p x T' ∧ OkT w w' T T' := by
  have e1 : ¬ (180 : Int) = 0 := by decide
  have h2 := a_Seal (s := s) hI ok hn w hL hT
  unfold TS.sN TS.sC TS.sE TS.sX at h2
  rw [h, if_neg e1, if_neg e1, if_neg e1, if_neg e1] at h2
  exact h2
theorem o_over {p : Nat} {x : TS} {T : List Blk} {n i : Nat} {c : ByteArray} (hI : IsT p x T) (ok : x.Ok) (hn : n < 18446744073709551616) (hi : i < 18446744073709551616) (h : x.oF n i = 180) (w : World) (hL : Laid w) (hT : There w T) : Calls Tryd.prog 9 #[.pointer (some ⟨p, 0, none⟩), .int .u64 (n : Int), .int .u64 (i : Int), .string c] w fun r w' => ∃ T', r = .returned (.tuple #[.string ⟨#[]⟩, .int .i64 180]) ∧ IsT p x T' ∧ OkT w w' T T' := by
  have e1 : ¬ (180 : Int) = 0 := by decide
  have h2 := a_Open (c := c) hI ok hn hi w hL hT
  unfold TS.oC TS.oE TS.oX at h2
  rw [h, if_neg e1, if_neg e1, if_neg e1] at h2
  exact h2
theorem sF_spent {x : TS} {n : Nat} (h : x.ov n = false) (h2 : x.ct ≤ x.nx) : x.sF n = 180 := by
  unfold TS.ov at h
  unfold TS.sF slF
  rw [h, if_neg (by decide), if_pos h2]
theorem sF_gone {x : TS} {n : Nat} (h : x.ov n = true) : x.sF n = 180 := by
  unfold TS.ov at h
  unfold TS.sF slF
  rw [h, if_pos rfl]
theorem oF_gone {x : TS} {n i : Nat} (h : x.ov n = true) : x.oF n i = 180 := by
  unfold TS.ov at h
  unfold TS.oF opF
  rw [h, if_pos rfl]
theorem ov_wiped {x : TS} {n : Nat} (h : x.sd = ⟨#[]⟩) : x.ov n = true := decide_eq_true (.inl h)
theorem infoS : InfoK Tryd.prog 39 2 (.agg #[.int .u64 0, .string ⟨#[]⟩]) := infoK (b := 24) (by kernel_rfl) (by kernel_rfl) (by kernel_rfl) (by decide)
def fN : Nat → Value := fun j => .int .u64 (j : Int)
def fC (Y : Nat → ByteArray) : Nat → Value := fun j => .string (sealS keyA (nS (j : Int)) ⟨#[]⟩ (Y j))
/-- How often a number was opened. -/
def cn (q : List Nat) : Nat → Int := fun t => if t ∈ q then 1 else 0
theorem cn_nil : cn [] = fun _ => 0 := by
  funext t
  simp [cn]
theorem cn_in {q : List Nat} {r : Nat} (h : r ∈ q) : cn q r = 1 := if_pos h
theorem cn_out {q : List Nat} {r : Nat} (h : ¬ r ∈ q) : cn q r = 0 := if_neg h
theorem cn_upd {q : List Nat} {r : Nat} (h : cn q r = 0) : upd (cn q) r (cn q r + 1) = cn (q ++ [r]) := by
  funext t
  unfold upd
  rw [h]
  unfold cn
  by_cases e : t = r
  · subst e
    simp
  · simp [e]
theorem my_out {s : Nat} {q : List Nat} {r : Nat} (h : my s q r = 0) : ¬ r ∈ q := fun hm => by
  unfold my at h
  rw [if_pos hm] at h
  split at h <;> cases h
theorem my_big {s : Nat} {q : List Nat} {r kk : Nat} (h : ¬ my s q r = 0) (hr : ¬ r ∈ q) (hq : ∀ t ∈ q, t < kk) : s < kk := by
  unfold my at h
  by_cases c : q ≠ [] ∧ r < mx q ∧ s ≤ mx q - r
  · have := hq _ (mx_in c.1)
    omega
  · rw [if_neg c, if_neg hr] at h
    exact absurd rfl h
theorem infoL {rc ct rk lf : Nat} (h : mbB rc ct rk lf = true) : 1 ≤ rc ∧ rc ≤ ct ∧ ct ≤ 1152921504606846976 ∧ 1 ≤ rk ∧ rk ≤ lf ∧ lf ≤ 1152921504606846976 := of_decide_eq_true h
set_option maxRecDepth 100000 in
set_option maxHeartbeats 4000000 in
set_option linter.unusedSimpArgs false in
theorem c_onceB {rc ct rk lf n : Nat} {z : Int} (hz : mbB rc ct rk lf = true → z < 1 ∨ 4096 < z) (l1 l2 : Option Addr) (b1 o1 n1 k1 n2 k2 : Nat) (Y : Nat → ByteArray) (hl1 : 0 < n1 → l1 = some ⟨b1, o1, none⟩) (hm1 : n1 ≤ 9223372036854775807) (hB : ∀ j, j < n1 → (Y j).size ≤ 140737488351232)  (w : World) (hL : Laid w) (hY : ∀ j, j < n1 → w.cell? ⟨b1, o1 + j * 1, none⟩ = some (.string (Y j))) :
    Calls Tryd.prog 3 #[.agg (av 5 (ls [.int .u64 (rc : Int), .int .u64 (ct : Int), .int .u64 (rk : Int), .int .u64 (lf : Int), .int .i64 z])), .slice l1 n1 k1, .slice l2 n2 k2, .int .u64 (n : Int)] w fun r w' => r = .returned (.bool true) ∧ Below w.heap.size w w' := by
  go_enter Tryd.func3, Tryd.ntmps3
  have M := Mem.start hL
  refine wp_seq ?_
  refine rg_lit ?_
  refine pl_new M (want_no rfl) (some 4) rfl (.cells (av 5 (ls [.int .u64 (rc : Int), .int .u64 (ct : Int), .int .u64 (rk : Int), .int .u64 (lf : Int), .int .i64 z])) 24) (fun _ => by kernel_rfl) ?_
  intro g1 u1 M
  replace M : Mem ⟨w, []⟩ [⟨g1, .cells (av 5 (ls [.int .u64 (rc : Int), .int .u64 (ct : Int), .int .u64 (rk : Int), .int .u64 (lf : Int), .int .i64 z])) 24⟩] u1 := M
  refine pl_val (want_no rfl) (some 8) rfl (.bool false) (fun _ => by kernel_rfl) ?_
  refine pl_nil ?_
  refine au_then ?_
  refine wp_seq ?_
  refine rg_lit ?_
  refine pl_val (want_no rfl) (some 9) rfl (.int .i64 0) (fun _ => by kernel_rfl) ?_
  refine pl_nil ?_
  refine au_then ?_
  refine wp_seq ?_
  refine wp_seq ?_
  refine rg_lit ?_
  refine pl_val (want_no rfl) (some 10) rfl (.int .i64 0) (fun _ => by kernel_rfl) ?_
  refine pl_nil ?_
  refine au_then ?_
  refine wp_block ?_
  refine au_loop (fun j a w' => ∃ v1 : Nat → Value, a = ⟨#[.agg (av 5 (ls [.int .u64 (rc : Int), .int .u64 (ct : Int), .int .u64 (rk : Int), .int .u64 (lf : Int), .int .i64 z])), .slice l1 n1 k1, .slice l2 n2 k2, .int .u64 (n : Int), .pointer (some ⟨g1, 0, none⟩), undef, undef, undef, .bool false, .int .i64 ((tot Y j : Nat) : Int), .int .i64 (j : Int), undef, undef, undef, undef, undef, undef, undef, undef, undef, undef, undef, undef, undef, undef, undef, undef, undef, undef, undef, v1 30, v1 31, v1 32, v1 33, v1 34, v1 35, v1 36, v1 37, v1 38, v1 39, v1 40, v1 41, v1 42, v1 43, v1 44, v1 45, v1 46, v1 47, undef, undef, undef, undef, undef, undef, undef, undef, undef, undef, undef, undef, undef, undef, undef, undef, undef, undef, undef, undef, undef, undef, undef, undef, undef, undef, undef, undef, undef, undef, undef, undef, undef, undef, undef, undef, undef, undef, undef, undef, undef, undef, undef, undef, undef, undef, undef, undef, undef, undef, undef, undef, undef, undef, undef, undef, undef, undef, undef, undef, undef, undef, undef, undef, undef, undef, undef, undef, undef, undef, undef, undef, undef, undef, undef, undef, undef, undef, undef, undef, undef, undef, undef, undef, undef, undef, undef, undef, undef, undef, undef, undef, undef, undef, undef, undef, undef, undef, undef, undef, undef, undef, undef, undef, undef, undef, undef, undef, undef, undef, undef, undef, undef, undef, undef, undef, undef, undef, undef, undef, undef, undef, undef, undef, undef, undef, undef, undef, undef, undef, undef, undef, undef, undef, undef, undef, undef, undef, undef, undef, undef, undef, undef, undef, undef, undef, undef, undef, undef, undef, undef, undef, undef, undef, undef, undef, undef, undef, undef, undef, undef, undef, undef, undef, undef, undef, undef, undef, undef, undef, undef, undef, undef, undef], []⟩ ∧ Mem ⟨w, []⟩ [⟨g1, .cells (av 5 (ls [.int .u64 (rc : Int), .int .u64 (ct : Int), .int .u64 (rk : Int), .int .u64 (lf : Int), .int .i64 z])) 24⟩] w') n1 ⟨fun k_ => ([undef, undef, undef, undef, undef, undef, undef, undef, undef, undef, undef, undef, undef, undef, undef, undef, undef, undef] : List Value).getD (k_ - 30) undef, by kernel_rfl, M⟩ ?_ ?_
  · intro j a u0 hj hI
    obtain ⟨v1, rfl, M⟩ := hI
    have hBj := hB j hj
    refine wp_seq ?_
    refine wp_seq ?_
    refine rg_lit ?_
    refine pl_val (want_no rfl) (some 30) rfl (.int .i64 (j : Int)) (fun _ => by kernel_rfl) ?_
    refine pl_val (want_no rfl) (some 31) rfl (.slice l1 n1 k1) (fun _ => by kernel_rfl) ?_
    refine pl_val (want_no rfl) (some 32) rfl (.int .i64 (n1 : Int)) (fun _ => by kernel_rfl) ?_
    refine pl_val (want_no rfl) (some 33) rfl (.bool true) (fun w => Eq.trans (b := .ok (.value (.bool (decide ((j : Int) < (n1 : Int))))) w) (by kernel_rfl) (by rw [decide_eq_true (by omega)])) ?_
    refine pl_val (want_no rfl) (some 34) rfl (.bool true) (fun _ => by kernel_rfl) ?_
    refine pl_val (want_on 4 true rfl 34 rfl (by kernel_rfl)) (some 35) rfl (.int .i64 ((tot Y j : Nat) : Int)) (fun _ => by kernel_rfl) ?_
    by_cases c0 : 4096 < ((tot Y j : Nat) : Int)
    · skip
      refine pl_val (want_on 4 true rfl 34 rfl (by kernel_rfl)) (some 36) rfl (.bool false) (fun w => Eq.trans (b := .ok (.value (.bool (decide (((tot Y j : Nat) : Int) ≤ 4096)))) w) (by kernel_rfl) (by rw [decide_eq_false (by omega)])) ?_
      refine pl_val (want_no rfl) (some 37) rfl (.bool false) (fun _ => by kernel_rfl) ?_
      refine pl_nil ?_
      refine au_then ?_
      refine wp_cond_false (by kernel_rfl) ?_
      refine wp_exit ?_
      refine au_then_exit ?_
      refine au_then_exit ?_
      refine au_block_exit ?_
      refine au_then ?_
      refine wp_seq ?_
      refine wp_seq ?_
      refine rg_lit ?_
      refine pl_val (want_no rfl) (some 48) rfl (.int .i64 ((tot Y j : Nat) : Int)) (fun _ => by kernel_rfl) ?_
      refine pl_val (want_no rfl) (some 49) rfl (.bool true) (fun w => Eq.trans (b := .ok (.value (.bool (decide (4096 < ((tot Y j : Nat) : Int))))) w) (by kernel_rfl) (by rw [decide_eq_true (c0)])) ?_
      refine pl_val (want_no rfl) (some 50) rfl (.bool true) (fun _ => by kernel_rfl) ?_
      refine pl_skip (want_off 2 false rfl 50 rfl (by kernel_rfl)) (some 51) rfl ?_
      refine pl_skip (want_off 2 false rfl 50 rfl (by kernel_rfl)) (some 52) rfl ?_
      refine pl_skip (want_off 2 false rfl 50 rfl (by kernel_rfl)) (some 53) rfl ?_
      refine pl_val (want_no rfl) (some 54) rfl (.bool true) (fun _ => by kernel_rfl) ?_
      refine pl_nil ?_
      refine au_then ?_
      refine wp_cond_true (by kernel_rfl) ?_
      refine wp_seq ?_
      refine rg_lit ?_
      refine pl_call M (want_no rfl) (some 55) rfl 5 #[] (.bool true) (fun _ => by kernel_rfl) (fun w M => c_alive w M.laid) ?_
      intro u2 M
      refine pl_val (want_no rfl) (some 8) rfl (.bool true) (fun _ => by kernel_rfl) ?_
      refine pl_nil ?_
      refine au_then ?_
      refine wp_ret ?_
      refine au_then_ret ?_
      exact bodyPost_ret (v := .bool true) (results_tmp1 Tryd.results3 _ _ _ (by kernel_rfl)) (by kernel_rfl) ⟨rfl, below_grown M.old⟩
    · skip
      refine pl_val (want_on 4 true rfl 34 rfl (by kernel_rfl)) (some 36) rfl (.bool true) (fun w => Eq.trans (b := .ok (.value (.bool (decide (((tot Y j : Nat) : Int) ≤ 4096)))) w) (by kernel_rfl) (by rw [decide_eq_true (by omega)])) ?_
      refine pl_val (want_no rfl) (some 37) rfl (.bool true) (fun _ => by kernel_rfl) ?_
      refine pl_nil ?_
      refine au_then ?_
      refine wp_cond_true (by kernel_rfl) ?_
      refine wp_skip ?_
      refine au_then ?_
      refine wp_seq ?_
      refine wp_block ?_
      refine rg_lit ?_
      refine pl_val (want_no rfl) (some 40) rfl (.int .i64 ((tot Y j : Nat) : Int)) (fun _ => by kernel_rfl) ?_
      refine pl_val (want_no rfl) (some 41) rfl (.int .i64 (((tot Y j : Nat) : Int) + 8)) (fun w => Eq.trans (b := .ok (.value (.int .i64 (IntKind.wrap .i64 (((tot Y j : Nat) : Int) + 8)))) w) (by kernel_rfl) (by rw [wrap64 (by omega) (by omega)])) ?_
      refine pl_val (want_no rfl) (some 42) rfl (.slice l1 n1 k1) (fun _ => by kernel_rfl) ?_
      refine pl_val (want_no rfl) (some 43) rfl (.int .i64 (j : Int)) (fun _ => by kernel_rfl) ?_
      refine pl_val (want_no rfl) (some 44) rfl (.pointer (some ⟨b1, (o1 + j * 1), none⟩)) (run_ixK 25 9 1 Tryd.underlying25 inz9 _ _ rfl l1 b1 o1 n1 k1 (by kernel_rfl) (hl1 (by omega)) .i64 j (by kernel_rfl) (by omega)) ?_
      refine pl_cell M (want_no rfl) (some 45) rfl 9 _ rfl b1 (o1 + j * 1) (by kernel_rfl) (.string (Y j)) (fun _ => by kernel_rfl) (fun w M => M.oldc (hY j (by omega)) (by simp)) ?_
      refine pl_val (want_no rfl) (some 46) rfl (.int .i64 ((Y j).size : Int)) (fun _ => by kernel_rfl) ?_
      refine pl_val (want_no rfl) (some 47) rfl (.int .i64 ((tot Y (j + 1) : Nat) : Int)) (fun w => Eq.trans (b := .ok (.value (.int .i64 (IntKind.wrap .i64 ((((tot Y j : Nat) : Int) + 8) + ((Y j).size : Int))))) w) (by kernel_rfl) (by rw [wrap64 (by omega) (by omega), tot_succ])) ?_
      refine pl_val (want_no rfl) (some 9) rfl (.int .i64 ((tot Y (j + 1) : Nat) : Int)) (fun _ => by kernel_rfl) ?_
      refine pl_nil ?_
      refine au_block ?_
      refine au_then ?_
      refine rg_lit ?_
      refine pl_val (want_no rfl) (some 38) rfl (.int .i64 (j : Int)) (fun _ => by kernel_rfl) ?_
      refine pl_val (want_no rfl) (some 39) rfl (.int .i64 ((j + 1 : Nat) : Int)) (fun w => Eq.trans (b := .ok (.value (.int .i64 (IntKind.wrap .i64 ((j : Int) + 1)))) w) (by kernel_rfl) (by rw [wrap64 (by omega) (by omega)]; rfl)) ?_
      refine pl_val (want_no rfl) (some 10) rfl (.int .i64 ((j + 1 : Nat) : Int)) (fun _ => by kernel_rfl) ?_
      refine pl_nil ?_
      refine au_then ?_
      exact ⟨fun k_ => ([.int .i64 (j : Int), .slice l1 n1 k1, .int .i64 (n1 : Int), .bool true, .bool true, .int .i64 ((tot Y j : Nat) : Int), .bool true, .bool true, .int .i64 (j : Int), .int .i64 ((j + 1 : Nat) : Int), .int .i64 ((tot Y j : Nat) : Int), .int .i64 (((tot Y j : Nat) : Int) + 8), .slice l1 n1 k1, .int .i64 (j : Int), .pointer (some ⟨b1, (o1 + j * 1), none⟩), .string (Y j), .int .i64 ((Y j).size : Int), .int .i64 ((tot Y (j + 1) : Nat) : Int)] : List Value).getD (k_ - 30) undef, by kernel_rfl, M⟩
  · intro a u0 hI
    obtain ⟨v1, rfl, M⟩ := hI
    refine wp_seq ?_
    refine wp_seq ?_
    refine rg_lit ?_
    refine pl_val (want_no rfl) (some 30) rfl (.int .i64 (n1 : Int)) (fun _ => by kernel_rfl) ?_
    refine pl_val (want_no rfl) (some 31) rfl (.slice l1 n1 k1) (fun _ => by kernel_rfl) ?_
    refine pl_val (want_no rfl) (some 32) rfl (.int .i64 (n1 : Int)) (fun _ => by kernel_rfl) ?_
    refine pl_val (want_no rfl) (some 33) rfl (.bool false) (fun w => Eq.trans (b := .ok (.value (.bool (decide ((n1 : Int) < (n1 : Int))))) w) (by kernel_rfl) (by rw [decide_eq_false (by omega)])) ?_
    refine pl_val (want_no rfl) (some 34) rfl (.bool false) (fun _ => by kernel_rfl) ?_
    refine pl_skip (want_off 4 true rfl 34 rfl (by kernel_rfl)) (some 35) rfl ?_
    refine pl_skip (want_off 4 true rfl 34 rfl (by kernel_rfl)) (some 36) rfl ?_
    refine pl_val (want_no rfl) (some 37) rfl (.bool false) (fun _ => by kernel_rfl) ?_
    refine pl_nil ?_
    refine au_then ?_
    refine wp_cond_false (by kernel_rfl) ?_
    refine wp_exit ?_
    refine au_then_exit ?_
    refine au_then_exit ?_
    refine au_block_exit ?_
    refine au_then ?_
    refine wp_seq ?_
    refine wp_seq ?_
    refine rg_lit ?_
    refine pl_val (want_no rfl) (some 48) rfl (.int .i64 ((tot Y n1 : Nat) : Int)) (fun _ => by kernel_rfl) ?_
    by_cases c0 : 4096 < ((tot Y n1 : Nat) : Int)
    · skip
      refine pl_val (want_no rfl) (some 49) rfl (.bool true) (fun w => Eq.trans (b := .ok (.value (.bool (decide (4096 < ((tot Y n1 : Nat) : Int))))) w) (by kernel_rfl) (by rw [decide_eq_true (c0)])) ?_
      refine pl_val (want_no rfl) (some 50) rfl (.bool true) (fun _ => by kernel_rfl) ?_
      refine pl_skip (want_off 2 false rfl 50 rfl (by kernel_rfl)) (some 51) rfl ?_
      refine pl_skip (want_off 2 false rfl 50 rfl (by kernel_rfl)) (some 52) rfl ?_
      refine pl_skip (want_off 2 false rfl 50 rfl (by kernel_rfl)) (some 53) rfl ?_
      refine pl_val (want_no rfl) (some 54) rfl (.bool true) (fun _ => by kernel_rfl) ?_
      refine pl_nil ?_
      refine au_then ?_
      refine wp_cond_true (by kernel_rfl) ?_
      refine wp_seq ?_
      refine rg_lit ?_
      refine pl_call M (want_no rfl) (some 55) rfl 5 #[] (.bool true) (fun _ => by kernel_rfl) (fun w M => c_alive w M.laid) ?_
      intro u2 M
      refine pl_val (want_no rfl) (some 8) rfl (.bool true) (fun _ => by kernel_rfl) ?_
      refine pl_nil ?_
      refine au_then ?_
      refine wp_ret ?_
      refine au_then_ret ?_
      exact bodyPost_ret (v := .bool true) (results_tmp1 Tryd.results3 _ _ _ (by kernel_rfl)) (by kernel_rfl) ⟨rfl, below_grown M.old⟩
    · skip
      refine pl_val (want_no rfl) (some 49) rfl (.bool false) (fun w => Eq.trans (b := .ok (.value (.bool (decide (4096 < ((tot Y n1 : Nat) : Int))))) w) (by kernel_rfl) (by rw [decide_eq_false (c0)])) ?_
      refine pl_val (want_no rfl) (some 50) rfl (.bool false) (fun _ => by kernel_rfl) ?_
      refine pl_val (want_on 2 false rfl 50 rfl (by kernel_rfl)) (some 51) rfl (.slice l2 n2 k2) (fun _ => by kernel_rfl) ?_
      refine pl_val (want_on 2 false rfl 50 rfl (by kernel_rfl)) (some 52) rfl (.int .i64 (n2 : Int)) (fun _ => by kernel_rfl) ?_
      by_cases c1 : 200 < (n2 : Int)
      · skip
        refine pl_val (want_on 2 false rfl 50 rfl (by kernel_rfl)) (some 53) rfl (.bool true) (fun w => Eq.trans (b := .ok (.value (.bool (decide (200 < (n2 : Int))))) w) (by kernel_rfl) (by rw [decide_eq_true (c1)])) ?_
        refine pl_val (want_no rfl) (some 54) rfl (.bool true) (fun _ => by kernel_rfl) ?_
        refine pl_nil ?_
        refine au_then ?_
        refine wp_cond_true (by kernel_rfl) ?_
        refine wp_seq ?_
        refine rg_lit ?_
        refine pl_call M (want_no rfl) (some 55) rfl 5 #[] (.bool true) (fun _ => by kernel_rfl) (fun w M => c_alive w M.laid) ?_
        intro u2 M
        refine pl_val (want_no rfl) (some 8) rfl (.bool true) (fun _ => by kernel_rfl) ?_
        refine pl_nil ?_
        refine au_then ?_
        refine wp_ret ?_
        refine au_then_ret ?_
        exact bodyPost_ret (v := .bool true) (results_tmp1 Tryd.results3 _ _ _ (by kernel_rfl)) (by kernel_rfl) ⟨rfl, below_grown M.old⟩
      · skip
        refine pl_val (want_on 2 false rfl 50 rfl (by kernel_rfl)) (some 53) rfl (.bool false) (fun w => Eq.trans (b := .ok (.value (.bool (decide (200 < (n2 : Int))))) w) (by kernel_rfl) (by rw [decide_eq_false (c1)])) ?_
        refine pl_val (want_no rfl) (some 54) rfl (.bool false) (fun _ => by kernel_rfl) ?_
        refine pl_nil ?_
        refine au_then ?_
        refine wp_cond_false (by kernel_rfl) ?_
        refine wp_skip ?_
        refine au_then ?_
        refine wp_seq ?_
        refine rg_held M [⟨g1, .cells (av 5 (ls [.int .u64 (rc : Int), .int .u64 (ct : Int), .int .u64 (rk : Int), .int .u64 (lf : Int), .int .i64 z])) 24⟩] 8 rfl (by kernel_rfl) (by kernel_rfl) (fun _ _ d _ _ h => by cases d <;> exact h) ?_
        intro u2 M
        replace M : Mem ⟨w, []⟩ [⟨g1, .cells (av 5 (ls [.int .u64 (rc : Int), .int .u64 (ct : Int), .int .u64 (rk : Int), .int .u64 (lf : Int), .int .i64 z])) 24⟩] u2 := M
        refine hl_val M 1 rfl (by decide) (by kernel_rfl) (by kernel_rfl) (want_no rfl) (some 58) rfl (.int .u64 (n : Int)) (fun _ _ => by kernel_rfl) ?_
        refine hl_load M 2 rfl (by decide) (by kernel_rfl) (by kernel_rfl) (want_no rfl) (some 59) rfl 24 _ rfl 0 g1 0 (by kernel_rfl) 5 24 (ls [.int .u64 (rc : Int), .int .u64 (ct : Int), .int .u64 (rk : Int), .int .u64 (lf : Int), .int .i64 z]) rfl 5 (ls [.int .u64 (rc : Int), .int .u64 (ct : Int), .int .u64 (rk : Int), .int .u64 (lf : Int), .int .i64 z]) (fun j _ => by rw [Nat.zero_add]) (by decide) _ Tryd.underlying24 rfl inz24 ?_
        refine hl_one 0 (by decide) (by kernel_rfl) rfl ?_
        refine pl_call M (want_no rfl) (some 57) rfl 7 #[.bool true] (.agg (av 5 (ls [.string ⟨#[]⟩, .string ⟨#[]⟩, .string keyA, .string keyB, .string ⟨#[]⟩]))) (fun _ => by kernel_rfl) (fun w M => c_gotA w M.laid) ?_
        intro u3 M
        refine pl_nil ?_
        refine au_then ?_
        refine ⟨M, ?_⟩
        refine hl_one 3 (by decide) (by kernel_rfl) rfl ?_
        refine pl_call M (want_no rfl) (some 60) rfl 6 #[.agg (av 5 (ls [.string ⟨#[]⟩, .string ⟨#[]⟩, .string keyA, .string keyB, .string ⟨#[]⟩])), .bool true, .int .u64 (n : Int), .agg (av 5 (ls [.int .u64 (rc : Int), .int .u64 (ct : Int), .int .u64 (rk : Int), .int .u64 (lf : Int), .int .i64 z]))] (.tuple #[.pointer none, .int .i64 2]) (fun _ => by kernel_rfl) (fun w M => c_TNewE (fun _ _ h => hz h) w M.laid) ?_
        intro u4 M
        refine pl_nil ?_
        refine au_then ?_
        refine ⟨M, ?_⟩
        refine hl_val M 4 rfl (by decide) (by kernel_rfl) (by kernel_rfl) (want_no rfl) (some 56) rfl (.tuple #[.pointer none, .int .i64 2]) (fun _ _ => by kernel_rfl) ?_
        refine hl_val M 5 rfl (by decide) (by kernel_rfl) (by kernel_rfl) (want_no rfl) (some 61) rfl (.pointer none) (fun _ _ => by kernel_rfl) ?_
        refine hl_val M 6 rfl (by decide) (by kernel_rfl) (by kernel_rfl) (want_no rfl) (some 62) rfl (.int .i64 2) (fun _ _ => by kernel_rfl) ?_
        refine hl_val M 7 rfl (by decide) (by kernel_rfl) (by kernel_rfl) (want_no rfl) (some 11) rfl (.pointer none) (fun _ _ => by kernel_rfl) ?_
        refine hl_end (by kernel_rfl) (by kernel_rfl) rfl ?_
        refine pl_val (want_no rfl) (some 12) rfl (.int .i64 2) (fun _ => by kernel_rfl) ?_
        refine pl_nil ?_
        refine au_then ?_
        refine au_then ?_
        refine wp_seq ?_
        refine rg_held M [⟨g1, .cells (av 5 (ls [.int .u64 (rc : Int), .int .u64 (ct : Int), .int .u64 (rk : Int), .int .u64 (lf : Int), .int .i64 z])) 24⟩] 8 rfl (by kernel_rfl) (by kernel_rfl) (fun _ _ d _ _ h => by cases d <;> exact h) ?_
        intro u5 M
        replace M : Mem ⟨w, []⟩ [⟨g1, .cells (av 5 (ls [.int .u64 (rc : Int), .int .u64 (ct : Int), .int .u64 (rk : Int), .int .u64 (lf : Int), .int .i64 z])) 24⟩] u5 := M
        refine hl_val M 1 rfl (by decide) (by kernel_rfl) (by kernel_rfl) (want_no rfl) (some 65) rfl (.int .u64 (n : Int)) (fun _ _ => by kernel_rfl) ?_
        refine hl_load M 2 rfl (by decide) (by kernel_rfl) (by kernel_rfl) (want_no rfl) (some 66) rfl 24 _ rfl 0 g1 0 (by kernel_rfl) 5 24 (ls [.int .u64 (rc : Int), .int .u64 (ct : Int), .int .u64 (rk : Int), .int .u64 (lf : Int), .int .i64 z]) rfl 5 (ls [.int .u64 (rc : Int), .int .u64 (ct : Int), .int .u64 (rk : Int), .int .u64 (lf : Int), .int .i64 z]) (fun j _ => by rw [Nat.zero_add]) (by decide) _ Tryd.underlying24 rfl inz24 ?_
        refine hl_one 0 (by decide) (by kernel_rfl) rfl ?_
        refine pl_call M (want_no rfl) (some 64) rfl 7 #[.bool false] (.agg (av 5 (ls [.string ⟨#[]⟩, .string ⟨#[]⟩, .string keyB, .string keyA, .string ⟨#[]⟩]))) (fun _ => by kernel_rfl) (fun w M => c_gotB w M.laid) ?_
        intro u6 M
        refine pl_nil ?_
        refine au_then ?_
        refine ⟨M, ?_⟩
        refine hl_one 3 (by decide) (by kernel_rfl) rfl ?_
        refine pl_call M (want_no rfl) (some 67) rfl 6 #[.agg (av 5 (ls [.string ⟨#[]⟩, .string ⟨#[]⟩, .string keyB, .string keyA, .string ⟨#[]⟩])), .bool false, .int .u64 (n : Int), .agg (av 5 (ls [.int .u64 (rc : Int), .int .u64 (ct : Int), .int .u64 (rk : Int), .int .u64 (lf : Int), .int .i64 z]))] (.tuple #[.pointer none, .int .i64 2]) (fun _ => by kernel_rfl) (fun w M => c_TNewE (fun _ _ h => hz h) w M.laid) ?_
        intro u7 M
        refine pl_nil ?_
        refine au_then ?_
        refine ⟨M, ?_⟩
        refine hl_val M 4 rfl (by decide) (by kernel_rfl) (by kernel_rfl) (want_no rfl) (some 63) rfl (.tuple #[.pointer none, .int .i64 2]) (fun _ _ => by kernel_rfl) ?_
        refine hl_val M 5 rfl (by decide) (by kernel_rfl) (by kernel_rfl) (want_no rfl) (some 68) rfl (.pointer none) (fun _ _ => by kernel_rfl) ?_
        refine hl_val M 6 rfl (by decide) (by kernel_rfl) (by kernel_rfl) (want_no rfl) (some 69) rfl (.int .i64 2) (fun _ _ => by kernel_rfl) ?_
        refine hl_val M 7 rfl (by decide) (by kernel_rfl) (by kernel_rfl) (want_no rfl) (some 13) rfl (.pointer none) (fun _ _ => by kernel_rfl) ?_
        refine hl_end (by kernel_rfl) (by kernel_rfl) rfl ?_
        refine pl_val (want_no rfl) (some 14) rfl (.int .i64 2) (fun _ => by kernel_rfl) ?_
        refine pl_nil ?_
        refine au_then ?_
        refine au_then ?_
        refine wp_seq ?_
        refine wp_seq ?_
        refine rg_lit ?_
        refine pl_val (want_no rfl) (some 70) rfl (.int .i64 2) (fun _ => by kernel_rfl) ?_
        refine pl_val (want_no rfl) (some 71) rfl (.bool true) (fun _ => by kernel_rfl) ?_
        refine pl_val (want_no rfl) (some 72) rfl (.bool true) (fun _ => by kernel_rfl) ?_
        refine pl_skip (want_off 2 false rfl 72 rfl (by kernel_rfl)) (some 73) rfl ?_
        refine pl_skip (want_off 2 false rfl 72 rfl (by kernel_rfl)) (some 74) rfl ?_
        refine pl_val (want_no rfl) (some 75) rfl (.bool true) (fun _ => by kernel_rfl) ?_
        refine pl_nil ?_
        refine au_then ?_
        refine wp_cond_true (by kernel_rfl) ?_
        refine wp_seq ?_
        refine rg_lit ?_
        refine pl_call M (want_no rfl) (some 76) rfl 5 #[] (.bool true) (fun _ => by kernel_rfl) (fun w M => c_alive w M.laid) ?_
        intro u8 M
        refine pl_val (want_no rfl) (some 8) rfl (.bool true) (fun _ => by kernel_rfl) ?_
        refine pl_nil ?_
        refine au_then ?_
        refine wp_ret ?_
        refine au_then_ret ?_
        exact bodyPost_ret (v := .bool true) (results_tmp1 Tryd.results3 _ _ _ (by kernel_rfl)) (by kernel_rfl) ⟨rfl, below_grown M.old⟩

set_option maxRecDepth 100000 in
set_option maxHeartbeats 4000000 in
set_option linter.unusedSimpArgs false in
theorem c_once {rc ct rk lf n : Nat} {s : Nat} (h3 : mbB rc ct rk lf = true) (hs : 1 ≤ s) (hs4 : s ≤ 4096) (l1 l2 : Option Addr) (b1 o1 n1 k1 b2 o2 n2 k2 : Nat) (Y : Nat → ByteArray) (X : Nat → Nat) (hl1 : 0 < n1 → l1 = some ⟨b1, o1, none⟩) (hl2 : 0 < n2 → l2 = some ⟨b2, o2, none⟩) (hm1 : n1 ≤ 9223372036854775807) (hB : ∀ j, j < n1 → (Y j).size ≤ 140737488351232) (hX0 : ∀ j, j < n2 → X j < 256) (hn : n < 18446744073709551616)  (w : World) (hL : Laid w) (hY : ∀ j, j < n1 → w.cell? ⟨b1, o1 + j * 1, none⟩ = some (.string (Y j))) (hX : ∀ j, j < n2 → w.cell? ⟨b2, o2 + j * 1, none⟩ = some (.int .u8 ((X j : Nat) : Int))) :
    Calls Tryd.prog 3 #[.agg (av 5 (ls [.int .u64 (rc : Int), .int .u64 (ct : Int), .int .u64 (rk : Int), .int .u64 (lf : Int), .int .i64 (s : Int)])), .slice l1 n1 k1, .slice l2 n2 k2, .int .u64 (n : Int)] w fun r w' => r = .returned (.bool true) ∧ Below w.heap.size w w' := by
  go_enter Tryd.func3, Tryd.ntmps3
  have M := Mem.start hL
  obtain ⟨m1, m2, m3, m4, m5, m6⟩ := infoL h3
  refine wp_seq ?_
  refine rg_lit ?_
  refine pl_new M (want_no rfl) (some 4) rfl (.cells (av 5 (ls [.int .u64 (rc : Int), .int .u64 (ct : Int), .int .u64 (rk : Int), .int .u64 (lf : Int), .int .i64 (s : Int)])) 24) (fun _ => by kernel_rfl) ?_
  intro g1 u1 M
  replace M : Mem ⟨w, []⟩ [⟨g1, .cells (av 5 (ls [.int .u64 (rc : Int), .int .u64 (ct : Int), .int .u64 (rk : Int), .int .u64 (lf : Int), .int .i64 (s : Int)])) 24⟩] u1 := M
  refine pl_val (want_no rfl) (some 8) rfl (.bool false) (fun _ => by kernel_rfl) ?_
  refine pl_nil ?_
  refine au_then ?_
  refine wp_seq ?_
  refine rg_lit ?_
  refine pl_val (want_no rfl) (some 9) rfl (.int .i64 0) (fun _ => by kernel_rfl) ?_
  refine pl_nil ?_
  refine au_then ?_
  refine wp_seq ?_
  refine wp_seq ?_
  refine rg_lit ?_
  refine pl_val (want_no rfl) (some 10) rfl (.int .i64 0) (fun _ => by kernel_rfl) ?_
  refine pl_nil ?_
  refine au_then ?_
  refine wp_block ?_
  refine au_loop (fun j a w' => ∃ v1 : Nat → Value, a = ⟨#[.agg (av 5 (ls [.int .u64 (rc : Int), .int .u64 (ct : Int), .int .u64 (rk : Int), .int .u64 (lf : Int), .int .i64 (s : Int)])), .slice l1 n1 k1, .slice l2 n2 k2, .int .u64 (n : Int), .pointer (some ⟨g1, 0, none⟩), undef, undef, undef, .bool false, .int .i64 ((tot Y j : Nat) : Int), .int .i64 (j : Int), undef, undef, undef, undef, undef, undef, undef, undef, undef, undef, undef, undef, undef, undef, undef, undef, undef, undef, undef, v1 30, v1 31, v1 32, v1 33, v1 34, v1 35, v1 36, v1 37, v1 38, v1 39, v1 40, v1 41, v1 42, v1 43, v1 44, v1 45, v1 46, v1 47, undef, undef, undef, undef, undef, undef, undef, undef, undef, undef, undef, undef, undef, undef, undef, undef, undef, undef, undef, undef, undef, undef, undef, undef, undef, undef, undef, undef, undef, undef, undef, undef, undef, undef, undef, undef, undef, undef, undef, undef, undef, undef, undef, undef, undef, undef, undef, undef, undef, undef, undef, undef, undef, undef, undef, undef, undef, undef, undef, undef, undef, undef, undef, undef, undef, undef, undef, undef, undef, undef, undef, undef, undef, undef, undef, undef, undef, undef, undef, undef, undef, undef, undef, undef, undef, undef, undef, undef, undef, undef, undef, undef, undef, undef, undef, undef, undef, undef, undef, undef, undef, undef, undef, undef, undef, undef, undef, undef, undef, undef, undef, undef, undef, undef, undef, undef, undef, undef, undef, undef, undef, undef, undef, undef, undef, undef, undef, undef, undef, undef, undef, undef, undef, undef, undef, undef, undef, undef, undef, undef, undef, undef, undef, undef, undef, undef, undef, undef, undef, undef, undef, undef, undef, undef, undef, undef, undef, undef, undef, undef, undef, undef, undef, undef, undef, undef, undef, undef, undef, undef, undef, undef, undef, undef], []⟩ ∧ Mem ⟨w, []⟩ [⟨g1, .cells (av 5 (ls [.int .u64 (rc : Int), .int .u64 (ct : Int), .int .u64 (rk : Int), .int .u64 (lf : Int), .int .i64 (s : Int)])) 24⟩] w') n1 ⟨fun k_ => ([undef, undef, undef, undef, undef, undef, undef, undef, undef, undef, undef, undef, undef, undef, undef, undef, undef, undef] : List Value).getD (k_ - 30) undef, by kernel_rfl, M⟩ ?_ ?_
  · intro j a u0 hj hI
    obtain ⟨v1, rfl, M⟩ := hI
    have hBj := hB j hj
    refine wp_seq ?_
    refine wp_seq ?_
    refine rg_lit ?_
    refine pl_val (want_no rfl) (some 30) rfl (.int .i64 (j : Int)) (fun _ => by kernel_rfl) ?_
    refine pl_val (want_no rfl) (some 31) rfl (.slice l1 n1 k1) (fun _ => by kernel_rfl) ?_
    refine pl_val (want_no rfl) (some 32) rfl (.int .i64 (n1 : Int)) (fun _ => by kernel_rfl) ?_
    refine pl_val (want_no rfl) (some 33) rfl (.bool true) (fun w => Eq.trans (b := .ok (.value (.bool (decide ((j : Int) < (n1 : Int))))) w) (by kernel_rfl) (by rw [decide_eq_true (by omega)])) ?_
    refine pl_val (want_no rfl) (some 34) rfl (.bool true) (fun _ => by kernel_rfl) ?_
    refine pl_val (want_on 4 true rfl 34 rfl (by kernel_rfl)) (some 35) rfl (.int .i64 ((tot Y j : Nat) : Int)) (fun _ => by kernel_rfl) ?_
    by_cases c0 : 4096 < ((tot Y j : Nat) : Int)
    · skip
      refine pl_val (want_on 4 true rfl 34 rfl (by kernel_rfl)) (some 36) rfl (.bool false) (fun w => Eq.trans (b := .ok (.value (.bool (decide (((tot Y j : Nat) : Int) ≤ 4096)))) w) (by kernel_rfl) (by rw [decide_eq_false (by omega)])) ?_
      refine pl_val (want_no rfl) (some 37) rfl (.bool false) (fun _ => by kernel_rfl) ?_
      refine pl_nil ?_
      refine au_then ?_
      refine wp_cond_false (by kernel_rfl) ?_
      refine wp_exit ?_
      refine au_then_exit ?_
      refine au_then_exit ?_
      refine au_block_exit ?_
      refine au_then ?_
      refine wp_seq ?_
      refine wp_seq ?_
      refine rg_lit ?_
      refine pl_val (want_no rfl) (some 48) rfl (.int .i64 ((tot Y j : Nat) : Int)) (fun _ => by kernel_rfl) ?_
      refine pl_val (want_no rfl) (some 49) rfl (.bool true) (fun w => Eq.trans (b := .ok (.value (.bool (decide (4096 < ((tot Y j : Nat) : Int))))) w) (by kernel_rfl) (by rw [decide_eq_true (c0)])) ?_
      refine pl_val (want_no rfl) (some 50) rfl (.bool true) (fun _ => by kernel_rfl) ?_
      refine pl_skip (want_off 2 false rfl 50 rfl (by kernel_rfl)) (some 51) rfl ?_
      refine pl_skip (want_off 2 false rfl 50 rfl (by kernel_rfl)) (some 52) rfl ?_
      refine pl_skip (want_off 2 false rfl 50 rfl (by kernel_rfl)) (some 53) rfl ?_
      refine pl_val (want_no rfl) (some 54) rfl (.bool true) (fun _ => by kernel_rfl) ?_
      refine pl_nil ?_
      refine au_then ?_
      refine wp_cond_true (by kernel_rfl) ?_
      refine wp_seq ?_
      refine rg_lit ?_
      refine pl_call M (want_no rfl) (some 55) rfl 5 #[] (.bool true) (fun _ => by kernel_rfl) (fun w M => c_alive w M.laid) ?_
      intro u2 M
      refine pl_val (want_no rfl) (some 8) rfl (.bool true) (fun _ => by kernel_rfl) ?_
      refine pl_nil ?_
      refine au_then ?_
      refine wp_ret ?_
      refine au_then_ret ?_
      exact bodyPost_ret (v := .bool true) (results_tmp1 Tryd.results3 _ _ _ (by kernel_rfl)) (by kernel_rfl) ⟨rfl, below_grown M.old⟩
    · skip
      refine pl_val (want_on 4 true rfl 34 rfl (by kernel_rfl)) (some 36) rfl (.bool true) (fun w => Eq.trans (b := .ok (.value (.bool (decide (((tot Y j : Nat) : Int) ≤ 4096)))) w) (by kernel_rfl) (by rw [decide_eq_true (by omega)])) ?_
      refine pl_val (want_no rfl) (some 37) rfl (.bool true) (fun _ => by kernel_rfl) ?_
      refine pl_nil ?_
      refine au_then ?_
      refine wp_cond_true (by kernel_rfl) ?_
      refine wp_skip ?_
      refine au_then ?_
      refine wp_seq ?_
      refine wp_block ?_
      refine rg_lit ?_
      refine pl_val (want_no rfl) (some 40) rfl (.int .i64 ((tot Y j : Nat) : Int)) (fun _ => by kernel_rfl) ?_
      refine pl_val (want_no rfl) (some 41) rfl (.int .i64 (((tot Y j : Nat) : Int) + 8)) (fun w => Eq.trans (b := .ok (.value (.int .i64 (IntKind.wrap .i64 (((tot Y j : Nat) : Int) + 8)))) w) (by kernel_rfl) (by rw [wrap64 (by omega) (by omega)])) ?_
      refine pl_val (want_no rfl) (some 42) rfl (.slice l1 n1 k1) (fun _ => by kernel_rfl) ?_
      refine pl_val (want_no rfl) (some 43) rfl (.int .i64 (j : Int)) (fun _ => by kernel_rfl) ?_
      refine pl_val (want_no rfl) (some 44) rfl (.pointer (some ⟨b1, (o1 + j * 1), none⟩)) (run_ixK 25 9 1 Tryd.underlying25 inz9 _ _ rfl l1 b1 o1 n1 k1 (by kernel_rfl) (hl1 (by omega)) .i64 j (by kernel_rfl) (by omega)) ?_
      refine pl_cell M (want_no rfl) (some 45) rfl 9 _ rfl b1 (o1 + j * 1) (by kernel_rfl) (.string (Y j)) (fun _ => by kernel_rfl) (fun w M => M.oldc (hY j (by omega)) (by simp)) ?_
      refine pl_val (want_no rfl) (some 46) rfl (.int .i64 ((Y j).size : Int)) (fun _ => by kernel_rfl) ?_
      refine pl_val (want_no rfl) (some 47) rfl (.int .i64 ((tot Y (j + 1) : Nat) : Int)) (fun w => Eq.trans (b := .ok (.value (.int .i64 (IntKind.wrap .i64 ((((tot Y j : Nat) : Int) + 8) + ((Y j).size : Int))))) w) (by kernel_rfl) (by rw [wrap64 (by omega) (by omega), tot_succ])) ?_
      refine pl_val (want_no rfl) (some 9) rfl (.int .i64 ((tot Y (j + 1) : Nat) : Int)) (fun _ => by kernel_rfl) ?_
      refine pl_nil ?_
      refine au_block ?_
      refine au_then ?_
      refine rg_lit ?_
      refine pl_val (want_no rfl) (some 38) rfl (.int .i64 (j : Int)) (fun _ => by kernel_rfl) ?_
      refine pl_val (want_no rfl) (some 39) rfl (.int .i64 ((j + 1 : Nat) : Int)) (fun w => Eq.trans (b := .ok (.value (.int .i64 (IntKind.wrap .i64 ((j : Int) + 1)))) w) (by kernel_rfl) (by rw [wrap64 (by omega) (by omega)]; rfl)) ?_
      refine pl_val (want_no rfl) (some 10) rfl (.int .i64 ((j + 1 : Nat) : Int)) (fun _ => by kernel_rfl) ?_
      refine pl_nil ?_
      refine au_then ?_
      exact ⟨fun k_ => ([.int .i64 (j : Int), .slice l1 n1 k1, .int .i64 (n1 : Int), .bool true, .bool true, .int .i64 ((tot Y j : Nat) : Int), .bool true, .bool true, .int .i64 (j : Int), .int .i64 ((j + 1 : Nat) : Int), .int .i64 ((tot Y j : Nat) : Int), .int .i64 (((tot Y j : Nat) : Int) + 8), .slice l1 n1 k1, .int .i64 (j : Int), .pointer (some ⟨b1, (o1 + j * 1), none⟩), .string (Y j), .int .i64 ((Y j).size : Int), .int .i64 ((tot Y (j + 1) : Nat) : Int)] : List Value).getD (k_ - 30) undef, by kernel_rfl, M⟩
  · intro a u0 hI
    obtain ⟨v1, rfl, M⟩ := hI
    refine wp_seq ?_
    refine wp_seq ?_
    refine rg_lit ?_
    refine pl_val (want_no rfl) (some 30) rfl (.int .i64 (n1 : Int)) (fun _ => by kernel_rfl) ?_
    refine pl_val (want_no rfl) (some 31) rfl (.slice l1 n1 k1) (fun _ => by kernel_rfl) ?_
    refine pl_val (want_no rfl) (some 32) rfl (.int .i64 (n1 : Int)) (fun _ => by kernel_rfl) ?_
    refine pl_val (want_no rfl) (some 33) rfl (.bool false) (fun w => Eq.trans (b := .ok (.value (.bool (decide ((n1 : Int) < (n1 : Int))))) w) (by kernel_rfl) (by rw [decide_eq_false (by omega)])) ?_
    refine pl_val (want_no rfl) (some 34) rfl (.bool false) (fun _ => by kernel_rfl) ?_
    refine pl_skip (want_off 4 true rfl 34 rfl (by kernel_rfl)) (some 35) rfl ?_
    refine pl_skip (want_off 4 true rfl 34 rfl (by kernel_rfl)) (some 36) rfl ?_
    refine pl_val (want_no rfl) (some 37) rfl (.bool false) (fun _ => by kernel_rfl) ?_
    refine pl_nil ?_
    refine au_then ?_
    refine wp_cond_false (by kernel_rfl) ?_
    refine wp_exit ?_
    refine au_then_exit ?_
    refine au_then_exit ?_
    refine au_block_exit ?_
    refine au_then ?_
    refine wp_seq ?_
    refine wp_seq ?_
    refine rg_lit ?_
    refine pl_val (want_no rfl) (some 48) rfl (.int .i64 ((tot Y n1 : Nat) : Int)) (fun _ => by kernel_rfl) ?_
    by_cases c0 : 4096 < ((tot Y n1 : Nat) : Int)
    · skip
      refine pl_val (want_no rfl) (some 49) rfl (.bool true) (fun w => Eq.trans (b := .ok (.value (.bool (decide (4096 < ((tot Y n1 : Nat) : Int))))) w) (by kernel_rfl) (by rw [decide_eq_true (c0)])) ?_
      refine pl_val (want_no rfl) (some 50) rfl (.bool true) (fun _ => by kernel_rfl) ?_
      refine pl_skip (want_off 2 false rfl 50 rfl (by kernel_rfl)) (some 51) rfl ?_
      refine pl_skip (want_off 2 false rfl 50 rfl (by kernel_rfl)) (some 52) rfl ?_
      refine pl_skip (want_off 2 false rfl 50 rfl (by kernel_rfl)) (some 53) rfl ?_
      refine pl_val (want_no rfl) (some 54) rfl (.bool true) (fun _ => by kernel_rfl) ?_
      refine pl_nil ?_
      refine au_then ?_
      refine wp_cond_true (by kernel_rfl) ?_
      refine wp_seq ?_
      refine rg_lit ?_
      refine pl_call M (want_no rfl) (some 55) rfl 5 #[] (.bool true) (fun _ => by kernel_rfl) (fun w M => c_alive w M.laid) ?_
      intro u2 M
      refine pl_val (want_no rfl) (some 8) rfl (.bool true) (fun _ => by kernel_rfl) ?_
      refine pl_nil ?_
      refine au_then ?_
      refine wp_ret ?_
      refine au_then_ret ?_
      exact bodyPost_ret (v := .bool true) (results_tmp1 Tryd.results3 _ _ _ (by kernel_rfl)) (by kernel_rfl) ⟨rfl, below_grown M.old⟩
    · skip
      refine pl_val (want_no rfl) (some 49) rfl (.bool false) (fun w => Eq.trans (b := .ok (.value (.bool (decide (4096 < ((tot Y n1 : Nat) : Int))))) w) (by kernel_rfl) (by rw [decide_eq_false (c0)])) ?_
      refine pl_val (want_no rfl) (some 50) rfl (.bool false) (fun _ => by kernel_rfl) ?_
      refine pl_val (want_on 2 false rfl 50 rfl (by kernel_rfl)) (some 51) rfl (.slice l2 n2 k2) (fun _ => by kernel_rfl) ?_
      refine pl_val (want_on 2 false rfl 50 rfl (by kernel_rfl)) (some 52) rfl (.int .i64 (n2 : Int)) (fun _ => by kernel_rfl) ?_
      by_cases c1 : 200 < (n2 : Int)
      · skip
        refine pl_val (want_on 2 false rfl 50 rfl (by kernel_rfl)) (some 53) rfl (.bool true) (fun w => Eq.trans (b := .ok (.value (.bool (decide (200 < (n2 : Int))))) w) (by kernel_rfl) (by rw [decide_eq_true (c1)])) ?_
        refine pl_val (want_no rfl) (some 54) rfl (.bool true) (fun _ => by kernel_rfl) ?_
        refine pl_nil ?_
        refine au_then ?_
        refine wp_cond_true (by kernel_rfl) ?_
        refine wp_seq ?_
        refine rg_lit ?_
        refine pl_call M (want_no rfl) (some 55) rfl 5 #[] (.bool true) (fun _ => by kernel_rfl) (fun w M => c_alive w M.laid) ?_
        intro u2 M
        refine pl_val (want_no rfl) (some 8) rfl (.bool true) (fun _ => by kernel_rfl) ?_
        refine pl_nil ?_
        refine au_then ?_
        refine wp_ret ?_
        refine au_then_ret ?_
        exact bodyPost_ret (v := .bool true) (results_tmp1 Tryd.results3 _ _ _ (by kernel_rfl)) (by kernel_rfl) ⟨rfl, below_grown M.old⟩
      · skip
        refine pl_val (want_on 2 false rfl 50 rfl (by kernel_rfl)) (some 53) rfl (.bool false) (fun w => Eq.trans (b := .ok (.value (.bool (decide (200 < (n2 : Int))))) w) (by kernel_rfl) (by rw [decide_eq_false (c1)])) ?_
        refine pl_val (want_no rfl) (some 54) rfl (.bool false) (fun _ => by kernel_rfl) ?_
        refine pl_nil ?_
        refine au_then ?_
        refine wp_cond_false (by kernel_rfl) ?_
        refine wp_skip ?_
        refine au_then ?_
        refine wp_seq ?_
        refine rg_held M [⟨g1, .cells (av 5 (ls [.int .u64 (rc : Int), .int .u64 (ct : Int), .int .u64 (rk : Int), .int .u64 (lf : Int), .int .i64 (s : Int)])) 24⟩] 8 rfl (by kernel_rfl) (by kernel_rfl) (fun _ _ d _ _ h => by cases d <;> exact h) ?_
        intro u2 M
        replace M : Mem ⟨w, []⟩ [⟨g1, .cells (av 5 (ls [.int .u64 (rc : Int), .int .u64 (ct : Int), .int .u64 (rk : Int), .int .u64 (lf : Int), .int .i64 (s : Int)])) 24⟩] u2 := M
        refine hl_val M 1 rfl (by decide) (by kernel_rfl) (by kernel_rfl) (want_no rfl) (some 58) rfl (.int .u64 (n : Int)) (fun _ _ => by kernel_rfl) ?_
        refine hl_load M 2 rfl (by decide) (by kernel_rfl) (by kernel_rfl) (want_no rfl) (some 59) rfl 24 _ rfl 0 g1 0 (by kernel_rfl) 5 24 (ls [.int .u64 (rc : Int), .int .u64 (ct : Int), .int .u64 (rk : Int), .int .u64 (lf : Int), .int .i64 (s : Int)]) rfl 5 (ls [.int .u64 (rc : Int), .int .u64 (ct : Int), .int .u64 (rk : Int), .int .u64 (lf : Int), .int .i64 (s : Int)]) (fun j _ => by rw [Nat.zero_add]) (by decide) _ Tryd.underlying24 rfl inz24 ?_
        refine hl_one 0 (by decide) (by kernel_rfl) rfl ?_
        refine pl_call M (want_no rfl) (some 57) rfl 7 #[.bool true] (.agg (av 5 (ls [.string ⟨#[]⟩, .string ⟨#[]⟩, .string keyA, .string keyB, .string ⟨#[]⟩]))) (fun _ => by kernel_rfl) (fun w M => c_gotA w M.laid) ?_
        intro u3 M
        refine pl_nil ?_
        refine au_then ?_
        refine ⟨M, ?_⟩
        refine hl_one 3 (by decide) (by kernel_rfl) rfl ?_
        refine pl_callM M (want_no rfl) (some 60) rfl 6 #[.agg (av 5 (ls [.string ⟨#[]⟩, .string ⟨#[]⟩, .string keyA, .string keyB, .string ⟨#[]⟩])), .bool true, .int .u64 (n : Int), .agg (av 5 (ls [.int .u64 (rc : Int), .int .u64 (ct : Int), .int .u64 (rk : Int), .int .u64 (lf : Int), .int .i64 (s : Int)]))] [⟨g1, .cells (av 5 (ls [.int .u64 (rc : Int), .int .u64 (ct : Int), .int .u64 (rk : Int), .int .u64 (lf : Int), .int .i64 (s : Int)])) 24⟩] [] [] (by simp only [List.append_assoc, List.cons_append, List.nil_append, List.append_nil]) (fun x : Nat × List Blk => .tuple #[.pointer (some ⟨x.1, 0, none⟩), .int .i64 0]) (fun x : Nat × List Blk => x.2) (fun x : Nat × List Blk => IsT x.1 ⟨rc, ct, rk, lf, s, 0, n, keyA, keyB, true, true, []⟩ x.2) (fun _ => by kernel_rfl) (fun w hL hT => a_New keyA_size keyB_size h3 hs hs4 w hL) ?_
        rintro ⟨pa, Tpa⟩ u4 Hpa M
        replace M : Mem ⟨w, []⟩ (⟨g1, .cells (av 5 (ls [.int .u64 (rc : Int), .int .u64 (ct : Int), .int .u64 (rk : Int), .int .u64 (lf : Int), .int .i64 (s : Int)])) 24⟩ :: Tpa) u4 := by simpa only [List.append_assoc, List.cons_append, List.nil_append, List.append_nil] using M
        refine pl_nil ?_
        refine au_then ?_
        refine ⟨(M.drop (.cons_cons _ (List.nil_sublist _))), ?_⟩
        refine hl_val (M.drop (.cons_cons _ (List.nil_sublist _))) 4 rfl (by decide) (by kernel_rfl) (by kernel_rfl) (want_no rfl) (some 56) rfl (.tuple #[.pointer (some ⟨pa, 0, none⟩), .int .i64 0]) (fun _ _ => by kernel_rfl) ?_
        refine hl_val (M.drop (.cons_cons _ (List.nil_sublist _))) 5 rfl (by decide) (by kernel_rfl) (by kernel_rfl) (want_no rfl) (some 61) rfl (.pointer (some ⟨pa, 0, none⟩)) (fun _ _ => by kernel_rfl) ?_
        refine hl_val (M.drop (.cons_cons _ (List.nil_sublist _))) 6 rfl (by decide) (by kernel_rfl) (by kernel_rfl) (want_no rfl) (some 62) rfl (.int .i64 0) (fun _ _ => by kernel_rfl) ?_
        refine hl_val (M.drop (.cons_cons _ (List.nil_sublist _))) 7 rfl (by decide) (by kernel_rfl) (by kernel_rfl) (want_no rfl) (some 11) rfl (.pointer (some ⟨pa, 0, none⟩)) (fun _ _ => by kernel_rfl) ?_
        refine hl_end (by kernel_rfl) (by kernel_rfl) rfl ?_
        refine pl_val (want_no rfl) (some 12) rfl (.int .i64 0) (fun _ => by kernel_rfl) ?_
        refine pl_nil ?_
        refine au_then ?_
        refine au_then ?_
        refine wp_seq ?_
        refine rg_held M [⟨g1, .cells (av 5 (ls [.int .u64 (rc : Int), .int .u64 (ct : Int), .int .u64 (rk : Int), .int .u64 (lf : Int), .int .i64 (s : Int)])) 24⟩] 8 rfl (by kernel_rfl) (by kernel_rfl) (fun _ _ d _ _ h => by cases d <;> exact h) ?_
        intro u5 M
        replace M : Mem ⟨w, []⟩ (⟨g1, .cells (av 5 (ls [.int .u64 (rc : Int), .int .u64 (ct : Int), .int .u64 (rk : Int), .int .u64 (lf : Int), .int .i64 (s : Int)])) 24⟩ :: Tpa) u5 := M
        refine hl_val (M.drop (.cons_cons _ (List.nil_sublist _))) 1 rfl (by decide) (by kernel_rfl) (by kernel_rfl) (want_no rfl) (some 65) rfl (.int .u64 (n : Int)) (fun _ _ => by kernel_rfl) ?_
        refine hl_load (M.drop (.cons_cons _ (List.nil_sublist _))) 2 rfl (by decide) (by kernel_rfl) (by kernel_rfl) (want_no rfl) (some 66) rfl 24 _ rfl 0 g1 0 (by kernel_rfl) 5 24 (ls [.int .u64 (rc : Int), .int .u64 (ct : Int), .int .u64 (rk : Int), .int .u64 (lf : Int), .int .i64 (s : Int)]) rfl 5 (ls [.int .u64 (rc : Int), .int .u64 (ct : Int), .int .u64 (rk : Int), .int .u64 (lf : Int), .int .i64 (s : Int)]) (fun j _ => by rw [Nat.zero_add]) (by decide) _ Tryd.underlying24 rfl inz24 ?_
        refine hl_one 0 (by decide) (by kernel_rfl) rfl ?_
        refine pl_call M (want_no rfl) (some 64) rfl 7 #[.bool false] (.agg (av 5 (ls [.string ⟨#[]⟩, .string ⟨#[]⟩, .string keyB, .string keyA, .string ⟨#[]⟩]))) (fun _ => by kernel_rfl) (fun w M => c_gotB w M.laid) ?_
        intro u6 M
        refine pl_nil ?_
        refine au_then ?_
        refine ⟨(M.drop (.cons_cons _ (List.nil_sublist _))), ?_⟩
        refine hl_one 3 (by decide) (by kernel_rfl) rfl ?_
        refine pl_callM M (want_no rfl) (some 67) rfl 6 #[.agg (av 5 (ls [.string ⟨#[]⟩, .string ⟨#[]⟩, .string keyB, .string keyA, .string ⟨#[]⟩])), .bool false, .int .u64 (n : Int), .agg (av 5 (ls [.int .u64 (rc : Int), .int .u64 (ct : Int), .int .u64 (rk : Int), .int .u64 (lf : Int), .int .i64 (s : Int)]))] [⟨g1, .cells (av 5 (ls [.int .u64 (rc : Int), .int .u64 (ct : Int), .int .u64 (rk : Int), .int .u64 (lf : Int), .int .i64 (s : Int)])) 24⟩] [] (Tpa) (by simp only [List.append_assoc, List.cons_append, List.nil_append, List.append_nil]) (fun x : Nat × List Blk => .tuple #[.pointer (some ⟨x.1, 0, none⟩), .int .i64 0]) (fun x : Nat × List Blk => x.2) (fun x : Nat × List Blk => IsT x.1 ⟨rc, ct, rk, lf, s, 0, n, keyB, keyA, false, false, []⟩ x.2) (fun _ => by kernel_rfl) (fun w hL hT => a_New keyB_size keyA_size h3 hs hs4 w hL) ?_
        rintro ⟨pb, Tpb⟩ u7 Hpb M
        replace M : Mem ⟨w, []⟩ (⟨g1, .cells (av 5 (ls [.int .u64 (rc : Int), .int .u64 (ct : Int), .int .u64 (rk : Int), .int .u64 (lf : Int), .int .i64 (s : Int)])) 24⟩ :: (Tpb ++ Tpa)) u7 := by simpa only [List.append_assoc, List.cons_append, List.nil_append, List.append_nil] using M
        refine pl_nil ?_
        refine au_then ?_
        refine ⟨(M.drop (.cons_cons _ (List.nil_sublist _))), ?_⟩
        refine hl_val (M.drop (.cons_cons _ (List.nil_sublist _))) 4 rfl (by decide) (by kernel_rfl) (by kernel_rfl) (want_no rfl) (some 63) rfl (.tuple #[.pointer (some ⟨pb, 0, none⟩), .int .i64 0]) (fun _ _ => by kernel_rfl) ?_
        refine hl_val (M.drop (.cons_cons _ (List.nil_sublist _))) 5 rfl (by decide) (by kernel_rfl) (by kernel_rfl) (want_no rfl) (some 68) rfl (.pointer (some ⟨pb, 0, none⟩)) (fun _ _ => by kernel_rfl) ?_
        refine hl_val (M.drop (.cons_cons _ (List.nil_sublist _))) 6 rfl (by decide) (by kernel_rfl) (by kernel_rfl) (want_no rfl) (some 69) rfl (.int .i64 0) (fun _ _ => by kernel_rfl) ?_
        refine hl_val (M.drop (.cons_cons _ (List.nil_sublist _))) 7 rfl (by decide) (by kernel_rfl) (by kernel_rfl) (want_no rfl) (some 13) rfl (.pointer (some ⟨pb, 0, none⟩)) (fun _ _ => by kernel_rfl) ?_
        refine hl_end (by kernel_rfl) (by kernel_rfl) rfl ?_
        refine pl_val (want_no rfl) (some 14) rfl (.int .i64 0) (fun _ => by kernel_rfl) ?_
        refine pl_nil ?_
        refine au_then ?_
        refine au_then ?_
        refine wp_seq ?_
        refine wp_seq ?_
        refine rg_lit ?_
        refine pl_val (want_no rfl) (some 70) rfl (.int .i64 0) (fun _ => by kernel_rfl) ?_
        refine pl_val (want_no rfl) (some 71) rfl (.bool false) (fun _ => by kernel_rfl) ?_
        refine pl_val (want_no rfl) (some 72) rfl (.bool false) (fun _ => by kernel_rfl) ?_
        refine pl_val (want_on 2 false rfl 72 rfl (by kernel_rfl)) (some 73) rfl (.int .i64 0) (fun _ => by kernel_rfl) ?_
        refine pl_val (want_on 2 false rfl 72 rfl (by kernel_rfl)) (some 74) rfl (.bool false) (fun _ => by kernel_rfl) ?_
        refine pl_val (want_no rfl) (some 75) rfl (.bool false) (fun _ => by kernel_rfl) ?_
        refine pl_nil ?_
        refine au_then ?_
        refine wp_cond_false (by kernel_rfl) ?_
        refine wp_skip ?_
        refine au_then ?_
        refine wp_seq ?_
        refine rg_lit ?_
        refine pl_val (want_no rfl) (some 15) rfl (.slice none 0 0) (fun _ => by kernel_rfl) ?_
        refine pl_nil ?_
        refine au_then ?_
        refine wp_seq ?_
        refine wp_seq ?_
        refine rg_lit ?_
        refine pl_val (want_no rfl) (some 16) rfl (.int .i64 0) (fun _ => by kernel_rfl) ?_
        refine pl_nil ?_
        refine au_then ?_
        refine wp_block ?_
        refine au_loop (fun j a w' => ∃ (v2 : Nat → Value) (sv : Value) (Ta Ts : List Blk), a = ⟨#[.agg (av 5 (ls [.int .u64 (rc : Int), .int .u64 (ct : Int), .int .u64 (rk : Int), .int .u64 (lf : Int), .int .i64 (s : Int)])), .slice l1 n1 k1, .slice l2 n2 k2, .int .u64 (n : Int), .pointer (some ⟨g1, 0, none⟩), undef, undef, undef, v2 8, .int .i64 ((tot Y n1 : Nat) : Int), .int .i64 (n1 : Int), .pointer (some ⟨pa, 0, none⟩), .int .i64 0, .pointer (some ⟨pb, 0, none⟩), .int .i64 0, sv, .int .i64 (j : Int), v2 17, v2 18, v2 19, undef, undef, undef, undef, undef, undef, undef, undef, undef, undef, .int .i64 (n1 : Int), .slice l1 n1 k1, .int .i64 (n1 : Int), .bool false, .bool false, undef, undef, .bool false, v1 38, v1 39, v1 40, v1 41, v1 42, v1 43, v1 44, v1 45, v1 46, v1 47, .int .i64 ((tot Y n1 : Nat) : Int), .bool false, .bool false, .slice l2 n2 k2, .int .i64 (n2 : Int), .bool false, .bool false, undef, .tuple #[.pointer (some ⟨pa, 0, none⟩), .int .i64 0], .agg (av 5 (ls [.string ⟨#[]⟩, .string ⟨#[]⟩, .string keyA, .string keyB, .string ⟨#[]⟩])), .int .u64 (n : Int), .agg (av 5 (ls [.int .u64 (rc : Int), .int .u64 (ct : Int), .int .u64 (rk : Int), .int .u64 (lf : Int), .int .i64 (s : Int)])), .tuple #[.pointer (some ⟨pa, 0, none⟩), .int .i64 0], .pointer (some ⟨pa, 0, none⟩), .int .i64 0, .tuple #[.pointer (some ⟨pb, 0, none⟩), .int .i64 0], .agg (av 5 (ls [.string ⟨#[]⟩, .string ⟨#[]⟩, .string keyB, .string keyA, .string ⟨#[]⟩])), .int .u64 (n : Int), .agg (av 5 (ls [.int .u64 (rc : Int), .int .u64 (ct : Int), .int .u64 (rk : Int), .int .u64 (lf : Int), .int .i64 (s : Int)])), .tuple #[.pointer (some ⟨pb, 0, none⟩), .int .i64 0], .pointer (some ⟨pb, 0, none⟩), .int .i64 0, .int .i64 0, .bool false, .bool false, .int .i64 0, .bool false, .bool false, undef, v2 77, v2 78, v2 79, v2 80, v2 81, v2 82, v2 83, v2 84, v2 85, v2 86, v2 87, v2 88, v2 89, v2 90, v2 91, v2 92, v2 93, v2 94, v2 95, v2 96, v2 97, v2 98, v2 99, v2 100, v2 101, v2 102, v2 103, v2 104, v2 105, v2 106, v2 107, v2 108, v2 109, v2 110, v2 111, v2 112, v2 113, v2 114, v2 115, v2 116, v2 117, v2 118, v2 119, undef, undef, undef, undef, undef, undef, undef, undef, undef, undef, undef, undef, undef, undef, undef, undef, undef, undef, undef, undef, undef, undef, undef, undef, undef, undef, undef, undef, undef, undef, undef, undef, undef, undef, undef, undef, undef, undef, undef, undef, undef, undef, undef, undef, undef, undef, undef, undef, undef, undef, undef, undef, undef, undef, undef, undef, undef, undef, undef, undef, undef, undef, undef, undef, undef, undef, undef, undef, undef, undef, undef, undef, undef, undef, undef, undef, undef, undef, undef, undef, undef, undef, undef, undef, undef, undef, undef, undef, undef, undef, undef, undef, undef, undef, undef, undef, undef, undef, undef, undef, undef, undef], []⟩ ∧ Mem ⟨w, []⟩ (⟨g1, .cells (av 5 (ls [.int .u64 (rc : Int), .int .u64 (ct : Int), .int .u64 (rk : Int), .int .u64 (lf : Int), .int .i64 (s : Int)])) 24⟩ :: (Tpb ++ (Ta ++ Ts))) w' ∧ (IsT pa ⟨rc, ct, rk, lf, s, min j ct, n, keyA, keyB, true, true, []⟩ Ta) ∧ (SlV 2 (fl2 fN (fC Y) (min j ct)) (min j ct) sv Ts)) n1 ⟨fun k_ => ([.bool false, undef, undef, undef, undef, undef, undef, undef, undef, undef, undef, undef, undef, undef, undef, undef, undef, undef, undef, undef, undef, undef, undef, undef, undef, undef, undef, undef, undef, undef, undef, undef, undef, undef, undef, undef, undef, undef, undef, undef, undef, undef, undef, undef, undef, undef, undef, undef, undef, undef, undef, undef, undef, undef, undef, undef, undef, undef, undef, undef, undef, undef, undef, undef, undef, undef, undef, undef, undef, undef, undef, undef, undef, undef, undef, undef, undef, undef, undef, undef, undef, undef, undef, undef, undef, undef, undef, undef, undef, undef, undef, undef, undef, undef, undef, undef, undef, undef, undef, undef, undef, undef, undef, undef, undef, undef, undef, undef, undef, undef, undef, undef] : List Value).getD (k_ - 8) undef, .slice none 0 0, Tpa, [], by kernel_rfl, by simpa only [List.append_assoc, List.cons_append, List.nil_append, List.append_nil] using M, by rw [Nat.zero_min]; exact Hpa, by rw [Nat.zero_min]; exact slv_nil 2⟩ ?_ ?_
        · intro j a u0 hj hI
          obtain ⟨v2, sv, Ta, Ts, rfl, M, Ha, hS⟩ := hI
          by_cases c2 : (j : Int) < (ct : Int)
          · skip
            have em : min j ct = j := by omega
            rw [em] at Ha hS
            have hsz := tot_ge Y n1 j hj
            have hln := tot_len Y n1
            refine wp_seq ?_
            refine wp_seq ?_
            refine rg_lit ?_
            refine pl_val (want_no rfl) (some 77) rfl (.int .i64 (j : Int)) (fun _ => by kernel_rfl) ?_
            refine pl_val (want_no rfl) (some 78) rfl (.slice l1 n1 k1) (fun _ => by kernel_rfl) ?_
            refine pl_val (want_no rfl) (some 79) rfl (.int .i64 (n1 : Int)) (fun _ => by kernel_rfl) ?_
            refine pl_val (want_no rfl) (some 80) rfl (.bool true) (fun w => Eq.trans (b := .ok (.value (.bool (decide ((j : Int) < (n1 : Int))))) w) (by kernel_rfl) (by rw [decide_eq_true (by omega)])) ?_
            refine pl_nil ?_
            refine au_then ?_
            refine wp_cond_true (by kernel_rfl) ?_
            refine wp_skip ?_
            refine au_then ?_
            refine wp_seq ?_
            refine wp_block ?_
            refine wp_seq ?_
            refine rg_lit ?_
            refine pl_val (want_no rfl) (some 84) rfl (.pointer (some ⟨pa, 0, none⟩)) (fun _ => by kernel_rfl) ?_
            refine pl_val (want_no rfl) (some 85) rfl (.int .u64 (n : Int)) (fun _ => by kernel_rfl) ?_
            refine pl_val (want_no rfl) (some 86) rfl (.slice l1 n1 k1) (fun _ => by kernel_rfl) ?_
            refine pl_val (want_no rfl) (some 87) rfl (.int .i64 (j : Int)) (fun _ => by kernel_rfl) ?_
            refine pl_val (want_no rfl) (some 88) rfl (.pointer (some ⟨b1, (o1 + j * 1), none⟩)) (run_ixK 25 9 1 Tryd.underlying25 inz9 _ _ rfl l1 b1 o1 n1 k1 (by kernel_rfl) (hl1 (by omega)) .i64 j (by kernel_rfl) (by omega)) ?_
            refine pl_cell M (want_no rfl) (some 89) rfl 9 _ rfl b1 (o1 + j * 1) (by kernel_rfl) (.string (Y j)) (fun _ => by kernel_rfl) (fun w M => M.oldc (hY j (by omega)) (by simp)) ?_
            refine pl_callM M (want_no rfl) (some 90) rfl 8 #[.pointer (some ⟨pa, 0, none⟩), .int .u64 (n : Int), .string (Y j)] (⟨g1, .cells (av 5 (ls [.int .u64 (rc : Int), .int .u64 (ct : Int), .int .u64 (rk : Int), .int .u64 (lf : Int), .int .i64 (s : Int)])) 24⟩ :: Tpb) (Ta) (Ts) (by simp only [List.append_assoc, List.cons_append, List.nil_append, List.append_nil]) (fun T0 => .tuple #[.int .u64 (j : Int), .string (sealS keyA (nS (j : Int)) ⟨#[]⟩ (Y j)), .int .i64 0]) (fun T0 => T0) (fun T0 => IsT pa ⟨rc, ct, rk, lf, s, j + 1, n, keyA, keyB, true, true, []⟩ T0) (fun _ => by kernel_rfl) (fun w hL hT => s_ok Ha ⟨hs, hs4, m3, show j ≤ ct by omega⟩ hn keyA_size (show n - n < lf by omega) (show j < ct by omega) rfl (by omega) w hL hT) ?_
            rintro Y1 u8 J1 M
            replace M : Mem ⟨w, []⟩ (⟨g1, .cells (av 5 (ls [.int .u64 (rc : Int), .int .u64 (ct : Int), .int .u64 (rk : Int), .int .u64 (lf : Int), .int .i64 (s : Int)])) 24⟩ :: (Tpb ++ (Y1 ++ Ts))) u8 := by simpa only [List.append_assoc, List.cons_append, List.nil_append, List.append_nil] using M
            refine pl_val (want_no rfl) (some 83) rfl (.tuple #[.int .u64 (j : Int), .string (sealS keyA (nS (j : Int)) ⟨#[]⟩ (Y j)), .int .i64 0]) (fun _ => by kernel_rfl) ?_
            refine pl_val (want_no rfl) (some 91) rfl (.int .u64 (j : Int)) (fun _ => by kernel_rfl) ?_
            refine pl_val (want_no rfl) (some 92) rfl (.string (sealS keyA (nS (j : Int)) ⟨#[]⟩ (Y j))) (fun _ => by kernel_rfl) ?_
            refine pl_val (want_no rfl) (some 93) rfl (.int .i64 0) (fun _ => by kernel_rfl) ?_
            refine pl_val (want_no rfl) (some 17) rfl (.int .u64 (j : Int)) (fun _ => by kernel_rfl) ?_
            refine pl_val (want_no rfl) (some 18) rfl (.string (sealS keyA (nS (j : Int)) ⟨#[]⟩ (Y j))) (fun _ => by kernel_rfl) ?_
            refine pl_val (want_no rfl) (some 19) rfl (.int .i64 0) (fun _ => by kernel_rfl) ?_
            refine pl_nil ?_
            refine au_then ?_
            refine wp_seq ?_
            refine wp_seq ?_
            refine rg_lit ?_
            refine pl_val (want_no rfl) (some 94) rfl (.int .i64 0) (fun _ => by kernel_rfl) ?_
            refine pl_val (want_no rfl) (some 95) rfl (.bool true) (fun _ => by kernel_rfl) ?_
            refine pl_val (want_no rfl) (some 96) rfl (.int .i64 (j : Int)) (fun _ => by kernel_rfl) ?_
            refine pl_val (want_no rfl) (some 97) rfl (.int .u64 (j : Int)) (fun w => Eq.trans (b := .ok (.value (.int .u64 (cv .u64 (j : Int)))) w) (by kernel_rfl) (by rw [cv_u64, Int.emod_eq_of_lt (by omega) (by omega)])) ?_
            refine pl_val (want_no rfl) (some 98) rfl (.pointer (some ⟨g1, 1, none⟩)) (fun _ => by kernel_rfl) ?_
            refine pl_cell M (want_no rfl) (some 99) rfl 22 _ rfl g1 1 (by kernel_rfl) (.int .u64 (ct : Int)) (fun _ => by kernel_rfl) (fun w M => M.cell 0 rfl (by decide) rfl) ?_
            refine pl_val (want_no rfl) (some 100) rfl (.bool true) (fun w => Eq.trans (b := .ok (.value (.bool (decide ((j : Int) < (ct : Int))))) w) (by kernel_rfl) (by rw [decide_eq_true (c2)])) ?_
            refine pl_val (want_no rfl) (some 101) rfl (.bool false) (fun _ => by kernel_rfl) ?_
            refine pl_val (want_no rfl) (some 102) rfl (.bool false) (fun _ => by kernel_rfl) ?_
            refine pl_val (want_on 8 false rfl 102 rfl (by kernel_rfl)) (some 103) rfl (.int .i64 0) (fun _ => by kernel_rfl) ?_
            refine pl_val (want_on 8 false rfl 102 rfl (by kernel_rfl)) (some 104) rfl (.bool true) (fun _ => by kernel_rfl) ?_
            refine pl_val (want_on 8 false rfl 102 rfl (by kernel_rfl)) (some 105) rfl (.bool true) (fun _ => by kernel_rfl) ?_
            refine pl_val (want_on 11 true rfl 105 rfl (by kernel_rfl)) (some 106) rfl (.int .u64 (j : Int)) (fun _ => by kernel_rfl) ?_
            refine pl_val (want_on 11 true rfl 105 rfl (by kernel_rfl)) (some 107) rfl (.int .i64 (j : Int)) (fun _ => by kernel_rfl) ?_
            refine pl_val (want_on 11 true rfl 105 rfl (by kernel_rfl)) (some 108) rfl (.int .u64 (j : Int)) (fun w => Eq.trans (b := .ok (.value (.int .u64 (cv .u64 (j : Int)))) w) (by kernel_rfl) (by rw [cv_u64, Int.emod_eq_of_lt (by omega) (by omega)])) ?_
            refine pl_val (want_on 11 true rfl 105 rfl (by kernel_rfl)) (some 109) rfl (.bool false) (fun w => Eq.trans (b := .ok (.value (.bool (!(decide ((j : Int) = (j : Int)))))) w) (by kernel_rfl) (by rw [decide_eq_true rfl]; rfl)) ?_
            refine pl_val (want_on 8 false rfl 102 rfl (by kernel_rfl)) (some 110) rfl (.bool false) (fun _ => by kernel_rfl) ?_
            refine pl_val (want_no rfl) (some 111) rfl (.bool false) (fun _ => by kernel_rfl) ?_
            refine pl_nil ?_
            refine au_then ?_
            refine wp_cond_false (by kernel_rfl) ?_
            refine wp_skip ?_
            refine au_then ?_
            refine wp_seq ?_
            refine rg_lit ?_
            refine pl_val (want_no rfl) (some 112) rfl (.int .i64 0) (fun _ => by kernel_rfl) ?_
            refine pl_val (want_no rfl) (some 113) rfl (.bool true) (fun _ => by kernel_rfl) ?_
            refine pl_nil ?_
            refine au_then ?_
            refine wp_cond_true (by kernel_rfl) ?_
            refine rg_lit ?_
            refine pl_val (want_no rfl) (some 114) rfl (sv) (fun _ => by kernel_rfl) ?_
            refine pl_val (want_no rfl) (some 115) rfl (.int .u64 (j : Int)) (fun _ => by kernel_rfl) ?_
            refine pl_val (want_no rfl) (some 116) rfl (.string (sealS keyA (nS (j : Int)) ⟨#[]⟩ (Y j))) (fun _ => by kernel_rfl) ?_
            refine pl_val (want_no rfl) (some 117) rfl (.agg (av 2 (ls [.int .u64 (j : Int), .string (sealS keyA (nS (j : Int)) ⟨#[]⟩ (Y j))]))) (fun _ => by kernel_rfl) ?_
            refine pl_mk M (want_no rfl) (some 118) rfl (fun g2 => .slice (some ⟨g2, 0, none⟩) 1 1) (.cells (av 2 (ls [.int .u64 (j : Int), .string (sealS keyA (nS (j : Int)) ⟨#[]⟩ (Y j))])) 39) (fun _ => by kernel_rfl) ?_
            intro g2 u9 M
            replace M := M.front
            replace M : Mem ⟨w, []⟩ (⟨g2, .cells (av 2 (ls [.int .u64 (j : Int), .string (sealS keyA (nS (j : Int)) ⟨#[]⟩ (Y j))])) 39⟩ :: ⟨g1, .cells (av 5 (ls [.int .u64 (rc : Int), .int .u64 (ct : Int), .int .u64 (rk : Int), .int .u64 (lf : Int), .int .i64 (s : Int)])) 24⟩ :: (Tpb ++ (Y1 ++ Ts))) u9 := M
            refine pl_appS M (want_no rfl) (some 119) rfl 35 35 39 2 (.agg #[.int .u64 0, .string ⟨#[]⟩]) Tryd.underlying35 infoS rfl (⟨g2, .cells (av 2 (ls [.int .u64 (j : Int), .string (sealS keyA (nS (j : Int)) ⟨#[]⟩ (Y j))])) 39⟩ :: ⟨g1, .cells (av 5 (ls [.int .u64 (rc : Int), .int .u64 (ct : Int), .int .u64 (rk : Int), .int .u64 (lf : Int), .int .i64 (s : Int)])) 24⟩ :: (Tpb ++ Y1)) Ts [] (by simp only [List.append_assoc, List.cons_append, List.nil_append, List.append_nil]) sv j (fl2 fN (fC Y) j) hS (by omega) 0 g2 39 (ls [.int .u64 (j : Int), .string (sealS keyA (nS (j : Int)) ⟨#[]⟩ (Y j))]) rfl (one_ls _ rfl) (fun _ => by kernel_rfl) ?_
            intro sv2 T2 u10 hS2 M
            replace M : Mem ⟨w, []⟩ (⟨g2, .cells (av 2 (ls [.int .u64 (j : Int), .string (sealS keyA (nS (j : Int)) ⟨#[]⟩ (Y j))])) 39⟩ :: ⟨g1, .cells (av 5 (ls [.int .u64 (rc : Int), .int .u64 (ct : Int), .int .u64 (rk : Int), .int .u64 (lf : Int), .int .i64 (s : Int)])) 24⟩ :: (Tpb ++ (Y1 ++ T2))) u10 := by simpa only [List.append_assoc, List.cons_append, List.nil_append, List.append_nil] using M
            refine pl_val (want_no rfl) (some 15) rfl (sv2) (fun _ => by kernel_rfl) ?_
            refine pl_nil ?_
            refine au_block ?_
            refine au_then ?_
            refine rg_lit ?_
            refine pl_val (want_no rfl) (some 81) rfl (.int .i64 (j : Int)) (fun _ => by kernel_rfl) ?_
            refine pl_val (want_no rfl) (some 82) rfl (.int .i64 ((j + 1 : Nat) : Int)) (fun w => Eq.trans (b := .ok (.value (.int .i64 (IntKind.wrap .i64 ((j : Int) + 1)))) w) (by kernel_rfl) (by rw [wrap64 (by omega) (by omega)]; rfl)) ?_
            refine pl_val (want_no rfl) (some 16) rfl (.int .i64 ((j + 1 : Nat) : Int)) (fun _ => by kernel_rfl) ?_
            refine pl_nil ?_
            refine au_then ?_
            have em2 : min (j + 1) ct = j + 1 := by omega
            exact ⟨fun k_ => ([v2 8, undef, undef, undef, undef, undef, undef, undef, undef, .int .u64 (j : Int), .string (sealS keyA (nS (j : Int)) ⟨#[]⟩ (Y j)), .int .i64 0, undef, undef, undef, undef, undef, undef, undef, undef, undef, undef, undef, undef, undef, undef, undef, undef, undef, undef, undef, undef, undef, undef, undef, undef, undef, undef, undef, undef, undef, undef, undef, undef, undef, undef, undef, undef, undef, undef, undef, undef, undef, undef, undef, undef, undef, undef, undef, undef, undef, undef, undef, undef, undef, undef, undef, undef, undef, .int .i64 (j : Int), .slice l1 n1 k1, .int .i64 (n1 : Int), .bool true, .int .i64 (j : Int), .int .i64 ((j + 1 : Nat) : Int), .tuple #[.int .u64 (j : Int), .string (sealS keyA (nS (j : Int)) ⟨#[]⟩ (Y j)), .int .i64 0], .pointer (some ⟨pa, 0, none⟩), .int .u64 (n : Int), .slice l1 n1 k1, .int .i64 (j : Int), .pointer (some ⟨b1, (o1 + j * 1), none⟩), .string (Y j), .tuple #[.int .u64 (j : Int), .string (sealS keyA (nS (j : Int)) ⟨#[]⟩ (Y j)), .int .i64 0], .int .u64 (j : Int), .string (sealS keyA (nS (j : Int)) ⟨#[]⟩ (Y j)), .int .i64 0, .int .i64 0, .bool true, .int .i64 (j : Int), .int .u64 (j : Int), .pointer (some ⟨g1, 1, none⟩), .int .u64 (ct : Int), .bool true, .bool false, .bool false, .int .i64 0, .bool true, .bool true, .int .u64 (j : Int), .int .i64 (j : Int), .int .u64 (j : Int), .bool false, .bool false, .bool false, .int .i64 0, .bool true, sv, .int .u64 (j : Int), .string (sealS keyA (nS (j : Int)) ⟨#[]⟩ (Y j)), .agg (av 2 (ls [.int .u64 (j : Int), .string (sealS keyA (nS (j : Int)) ⟨#[]⟩ (Y j))])), .slice (some ⟨g2, 0, none⟩) 1 1, sv2] : List Value).getD (k_ - 8) undef, sv2, Y1, T2, by kernel_rfl, (M.drop (.cons _ (.cons_cons _ (List.Sublist.refl _)))), by rw [em2]; exact J1, by rw [em2]; exact hS2⟩
          · skip
            have em : min j ct = ct := by omega
            rw [em] at Ha hS
            have hsz := tot_ge Y n1 j hj
            have hln := tot_len Y n1
            refine wp_seq ?_
            refine wp_seq ?_
            refine rg_lit ?_
            refine pl_val (want_no rfl) (some 77) rfl (.int .i64 (j : Int)) (fun _ => by kernel_rfl) ?_
            refine pl_val (want_no rfl) (some 78) rfl (.slice l1 n1 k1) (fun _ => by kernel_rfl) ?_
            refine pl_val (want_no rfl) (some 79) rfl (.int .i64 (n1 : Int)) (fun _ => by kernel_rfl) ?_
            refine pl_val (want_no rfl) (some 80) rfl (.bool true) (fun w => Eq.trans (b := .ok (.value (.bool (decide ((j : Int) < (n1 : Int))))) w) (by kernel_rfl) (by rw [decide_eq_true (by omega)])) ?_
            refine pl_nil ?_
            refine au_then ?_
            refine wp_cond_true (by kernel_rfl) ?_
            refine wp_skip ?_
            refine au_then ?_
            refine wp_seq ?_
            refine wp_block ?_
            refine wp_seq ?_
            refine rg_lit ?_
            refine pl_val (want_no rfl) (some 84) rfl (.pointer (some ⟨pa, 0, none⟩)) (fun _ => by kernel_rfl) ?_
            refine pl_val (want_no rfl) (some 85) rfl (.int .u64 (n : Int)) (fun _ => by kernel_rfl) ?_
            refine pl_val (want_no rfl) (some 86) rfl (.slice l1 n1 k1) (fun _ => by kernel_rfl) ?_
            refine pl_val (want_no rfl) (some 87) rfl (.int .i64 (j : Int)) (fun _ => by kernel_rfl) ?_
            refine pl_val (want_no rfl) (some 88) rfl (.pointer (some ⟨b1, (o1 + j * 1), none⟩)) (run_ixK 25 9 1 Tryd.underlying25 inz9 _ _ rfl l1 b1 o1 n1 k1 (by kernel_rfl) (hl1 (by omega)) .i64 j (by kernel_rfl) (by omega)) ?_
            refine pl_cell M (want_no rfl) (some 89) rfl 9 _ rfl b1 (o1 + j * 1) (by kernel_rfl) (.string (Y j)) (fun _ => by kernel_rfl) (fun w M => M.oldc (hY j (by omega)) (by simp)) ?_
            refine pl_callM M (want_no rfl) (some 90) rfl 8 #[.pointer (some ⟨pa, 0, none⟩), .int .u64 (n : Int), .string (Y j)] (⟨g1, .cells (av 5 (ls [.int .u64 (rc : Int), .int .u64 (ct : Int), .int .u64 (rk : Int), .int .u64 (lf : Int), .int .i64 (s : Int)])) 24⟩ :: Tpb) (Ta) (Ts) (by simp only [List.append_assoc, List.cons_append, List.nil_append, List.append_nil]) (fun T0 => .tuple #[.int .u64 0, .string ⟨#[]⟩, .int .i64 180]) (fun T0 => T0) (fun T0 => IsT pa ⟨rc, ct, rk, lf, s, ct, n, keyA, keyB, true, true, []⟩ T0) (fun _ => by kernel_rfl) (fun w hL hT => s_over Ha ⟨hs, hs4, m3, show ct ≤ ct by omega⟩ hn (sF_spent (ov_no keyA_size (show n - n < lf by omega)) (Nat.le_refl _)) w hL hT) ?_
            rintro Y1 u8 J1 M
            replace M : Mem ⟨w, []⟩ (⟨g1, .cells (av 5 (ls [.int .u64 (rc : Int), .int .u64 (ct : Int), .int .u64 (rk : Int), .int .u64 (lf : Int), .int .i64 (s : Int)])) 24⟩ :: (Tpb ++ (Y1 ++ Ts))) u8 := by simpa only [List.append_assoc, List.cons_append, List.nil_append, List.append_nil] using M
            refine pl_val (want_no rfl) (some 83) rfl (.tuple #[.int .u64 0, .string ⟨#[]⟩, .int .i64 180]) (fun _ => by kernel_rfl) ?_
            refine pl_val (want_no rfl) (some 91) rfl (.int .u64 0) (fun _ => by kernel_rfl) ?_
            refine pl_val (want_no rfl) (some 92) rfl (.string ⟨#[]⟩) (fun _ => by kernel_rfl) ?_
            refine pl_val (want_no rfl) (some 93) rfl (.int .i64 180) (fun _ => by kernel_rfl) ?_
            refine pl_val (want_no rfl) (some 17) rfl (.int .u64 0) (fun _ => by kernel_rfl) ?_
            refine pl_val (want_no rfl) (some 18) rfl (.string ⟨#[]⟩) (fun _ => by kernel_rfl) ?_
            refine pl_val (want_no rfl) (some 19) rfl (.int .i64 180) (fun _ => by kernel_rfl) ?_
            refine pl_nil ?_
            refine au_then ?_
            refine wp_seq ?_
            refine wp_seq ?_
            refine rg_lit ?_
            refine pl_val (want_no rfl) (some 94) rfl (.int .i64 180) (fun _ => by kernel_rfl) ?_
            refine pl_val (want_no rfl) (some 95) rfl (.bool false) (fun _ => by kernel_rfl) ?_
            refine pl_val (want_no rfl) (some 96) rfl (.int .i64 (j : Int)) (fun _ => by kernel_rfl) ?_
            refine pl_val (want_no rfl) (some 97) rfl (.int .u64 (j : Int)) (fun w => Eq.trans (b := .ok (.value (.int .u64 (cv .u64 (j : Int)))) w) (by kernel_rfl) (by rw [cv_u64, Int.emod_eq_of_lt (by omega) (by omega)])) ?_
            refine pl_val (want_no rfl) (some 98) rfl (.pointer (some ⟨g1, 1, none⟩)) (fun _ => by kernel_rfl) ?_
            refine pl_cell M (want_no rfl) (some 99) rfl 22 _ rfl g1 1 (by kernel_rfl) (.int .u64 (ct : Int)) (fun _ => by kernel_rfl) (fun w M => M.cell 0 rfl (by decide) rfl) ?_
            refine pl_val (want_no rfl) (some 100) rfl (.bool false) (fun w => Eq.trans (b := .ok (.value (.bool (decide ((j : Int) < (ct : Int))))) w) (by kernel_rfl) (by rw [decide_eq_false (c2)])) ?_
            refine pl_val (want_no rfl) (some 101) rfl (.bool false) (fun _ => by kernel_rfl) ?_
            refine pl_val (want_no rfl) (some 102) rfl (.bool false) (fun _ => by kernel_rfl) ?_
            refine pl_val (want_on 8 false rfl 102 rfl (by kernel_rfl)) (some 103) rfl (.int .i64 180) (fun _ => by kernel_rfl) ?_
            refine pl_val (want_on 8 false rfl 102 rfl (by kernel_rfl)) (some 104) rfl (.bool false) (fun _ => by kernel_rfl) ?_
            refine pl_val (want_on 8 false rfl 102 rfl (by kernel_rfl)) (some 105) rfl (.bool false) (fun _ => by kernel_rfl) ?_
            refine pl_skip (want_off 11 true rfl 105 rfl (by kernel_rfl)) (some 106) rfl ?_
            refine pl_skip (want_off 11 true rfl 105 rfl (by kernel_rfl)) (some 107) rfl ?_
            refine pl_skip (want_off 11 true rfl 105 rfl (by kernel_rfl)) (some 108) rfl ?_
            refine pl_skip (want_off 11 true rfl 105 rfl (by kernel_rfl)) (some 109) rfl ?_
            refine pl_val (want_on 8 false rfl 102 rfl (by kernel_rfl)) (some 110) rfl (.bool false) (fun _ => by kernel_rfl) ?_
            refine pl_val (want_no rfl) (some 111) rfl (.bool false) (fun _ => by kernel_rfl) ?_
            refine pl_nil ?_
            refine au_then ?_
            refine wp_cond_false (by kernel_rfl) ?_
            refine wp_skip ?_
            refine au_then ?_
            refine wp_seq ?_
            refine rg_lit ?_
            refine pl_val (want_no rfl) (some 112) rfl (.int .i64 180) (fun _ => by kernel_rfl) ?_
            refine pl_val (want_no rfl) (some 113) rfl (.bool false) (fun _ => by kernel_rfl) ?_
            refine pl_nil ?_
            refine au_then ?_
            refine wp_cond_false (by kernel_rfl) ?_
            refine wp_skip ?_
            refine au_block ?_
            refine au_then ?_
            refine rg_lit ?_
            refine pl_val (want_no rfl) (some 81) rfl (.int .i64 (j : Int)) (fun _ => by kernel_rfl) ?_
            refine pl_val (want_no rfl) (some 82) rfl (.int .i64 ((j + 1 : Nat) : Int)) (fun w => Eq.trans (b := .ok (.value (.int .i64 (IntKind.wrap .i64 ((j : Int) + 1)))) w) (by kernel_rfl) (by rw [wrap64 (by omega) (by omega)]; rfl)) ?_
            refine pl_val (want_no rfl) (some 16) rfl (.int .i64 ((j + 1 : Nat) : Int)) (fun _ => by kernel_rfl) ?_
            refine pl_nil ?_
            refine au_then ?_
            have em2 : min (j + 1) ct = ct := by omega
            exact ⟨fun k_ => ([v2 8, undef, undef, undef, undef, undef, undef, undef, undef, .int .u64 0, .string ⟨#[]⟩, .int .i64 180, undef, undef, undef, undef, undef, undef, undef, undef, undef, undef, undef, undef, undef, undef, undef, undef, undef, undef, undef, undef, undef, undef, undef, undef, undef, undef, undef, undef, undef, undef, undef, undef, undef, undef, undef, undef, undef, undef, undef, undef, undef, undef, undef, undef, undef, undef, undef, undef, undef, undef, undef, undef, undef, undef, undef, undef, undef, .int .i64 (j : Int), .slice l1 n1 k1, .int .i64 (n1 : Int), .bool true, .int .i64 (j : Int), .int .i64 ((j + 1 : Nat) : Int), .tuple #[.int .u64 0, .string ⟨#[]⟩, .int .i64 180], .pointer (some ⟨pa, 0, none⟩), .int .u64 (n : Int), .slice l1 n1 k1, .int .i64 (j : Int), .pointer (some ⟨b1, (o1 + j * 1), none⟩), .string (Y j), .tuple #[.int .u64 0, .string ⟨#[]⟩, .int .i64 180], .int .u64 0, .string ⟨#[]⟩, .int .i64 180, .int .i64 180, .bool false, .int .i64 (j : Int), .int .u64 (j : Int), .pointer (some ⟨g1, 1, none⟩), .int .u64 (ct : Int), .bool false, .bool false, .bool false, .int .i64 180, .bool false, .bool false, undef, undef, undef, undef, .bool false, .bool false, .int .i64 180, .bool false, v2 114, v2 115, v2 116, v2 117, v2 118, v2 119] : List Value).getD (k_ - 8) undef, sv, Y1, Ts, by kernel_rfl, M, by rw [em2]; exact J1, by rw [em2]; exact hS⟩
        · intro a u0 hI
          obtain ⟨v2, sv, Ta, Ts, rfl, M, Ha, hS⟩ := hI
          obtain ⟨kk, hk⟩ : ∃ kk, kk = min n1 ct := ⟨_, rfl⟩
          rw [← hk] at Ha hS
          refine wp_seq ?_
          refine wp_seq ?_
          refine rg_lit ?_
          refine pl_val (want_no rfl) (some 77) rfl (.int .i64 (n1 : Int)) (fun _ => by kernel_rfl) ?_
          refine pl_val (want_no rfl) (some 78) rfl (.slice l1 n1 k1) (fun _ => by kernel_rfl) ?_
          refine pl_val (want_no rfl) (some 79) rfl (.int .i64 (n1 : Int)) (fun _ => by kernel_rfl) ?_
          refine pl_val (want_no rfl) (some 80) rfl (.bool false) (fun w => Eq.trans (b := .ok (.value (.bool (decide ((n1 : Int) < (n1 : Int))))) w) (by kernel_rfl) (by rw [decide_eq_false (by omega)])) ?_
          refine pl_nil ?_
          refine au_then ?_
          refine wp_cond_false (by kernel_rfl) ?_
          refine wp_exit ?_
          refine au_then_exit ?_
          refine au_then_exit ?_
          refine au_block_exit ?_
          refine au_then ?_
          refine wp_seq ?_
          refine wp_seq ?_
          refine rg_lit ?_
          refine pl_val (want_no rfl) (some 120) rfl (sv) (fun _ => by kernel_rfl) ?_
          refine pl_val (want_no rfl) (some 121) rfl (.int .i64 ((kk : Nat) : Int)) (fun w => by rcases hS.ex with ⟨hn_, rfl, _⟩ | ⟨_, _, _, _, rfl, _⟩; (rw [hn_]; kernel_rfl); kernel_rfl) ?_
          by_cases c2 : ((kk : Nat) : Int) = 0
          · skip
            refine pl_val (want_no rfl) (some 122) rfl (.bool true) (fun w => Eq.trans (b := .ok (.value (.bool (decide (((kk : Nat) : Int) = 0)))) w) (by kernel_rfl) (by rw [decide_eq_true (c2)])) ?_
            refine pl_nil ?_
            refine au_then ?_
            refine wp_cond_true (by kernel_rfl) ?_
            refine wp_seq ?_
            refine rg_lit ?_
            refine pl_call M (want_no rfl) (some 123) rfl 5 #[] (.bool true) (fun _ => by kernel_rfl) (fun w M => c_alive w M.laid) ?_
            intro u8 M
            refine pl_val (want_no rfl) (some 8) rfl (.bool true) (fun _ => by kernel_rfl) ?_
            refine pl_nil ?_
            refine au_then ?_
            refine wp_ret ?_
            refine au_then_ret ?_
            exact bodyPost_ret (v := .bool true) (results_tmp1 Tryd.results3 _ _ _ (by kernel_rfl)) (by kernel_rfl) ⟨rfl, below_grown M.old⟩
          · skip
            refine pl_val (want_no rfl) (some 122) rfl (.bool false) (fun w => Eq.trans (b := .ok (.value (.bool (decide (((kk : Nat) : Int) = 0)))) w) (by kernel_rfl) (by rw [decide_eq_false (c2)])) ?_
            refine pl_nil ?_
            refine au_then ?_
            refine wp_cond_false (by kernel_rfl) ?_
            refine wp_skip ?_
            refine au_then ?_
            refine wp_seq ?_
            refine rg_lit ?_
            refine pl_val (want_no rfl) (some 124) rfl (sv) (fun _ => by kernel_rfl) ?_
            refine pl_val (want_no rfl) (some 125) rfl (.int .i64 ((kk : Nat) : Int)) (fun w => by rcases hS.ex with ⟨hn_, rfl, _⟩ | ⟨_, _, _, _, rfl, _⟩; (rw [hn_]; kernel_rfl); kernel_rfl) ?_
            refine pl_makeI M (want_no rfl) (some 126) rfl _ _ rfl kk (by kernel_rfl) (by kernel_rfl) (by have := tot_len Y n1; omega) ?_
            intro g2 u8 M
            replace M := M.front
            replace M : Mem ⟨w, []⟩ (⟨g2, .cells (av kk (wi (fun _ => 0))) 3⟩ :: ⟨g1, .cells (av 5 (ls [.int .u64 (rc : Int), .int .u64 (ct : Int), .int .u64 (rk : Int), .int .u64 (lf : Int), .int .i64 (s : Int)])) 24⟩ :: (Tpb ++ (Ta ++ Ts))) u8 := M
            refine pl_val (want_no rfl) (some 20) rfl (.slice (some ⟨g2, 0, none⟩) kk kk) (fun _ => by kernel_rfl) ?_
            refine pl_nil ?_
            obtain ⟨hlen_gs, hS_gs⟩ := hS
            rcases hS_gs with ⟨h0_, -, -⟩ | ⟨gs, caps, Zs, hn_gs, rfl, hle_gs, hZs, rfl⟩
            · exfalso; omega
            replace M := M.fetch (pre := (⟨g2, .cells (av kk (wi (fun _ => 0))) 3⟩ :: ⟨g1, .cells (av 5 (ls [.int .u64 (rc : Int), .int .u64 (ct : Int), .int .u64 (rk : Int), .int .u64 (lf : Int), .int .i64 (s : Int)])) 24⟩ :: (Tpb ++ Ta))) (b := ⟨gs, Zs⟩) (suf := []) (by simp only [List.append_assoc, List.cons_append, List.nil_append, List.append_nil])
            replace M : Mem ⟨w, []⟩ (⟨gs, Zs⟩ :: ⟨g2, .cells (av kk (wi (fun _ => 0))) 3⟩ :: ⟨g1, .cells (av 5 (ls [.int .u64 (rc : Int), .int .u64 (ct : Int), .int .u64 (rk : Int), .int .u64 (lf : Int), .int .i64 (s : Int)])) 24⟩ :: (Tpb ++ Ta)) u8 := by simpa only [List.append_assoc, List.cons_append, List.nil_append, List.append_nil] using M
            refine au_then ?_
            refine wp_seq ?_
            refine wp_seq ?_
            refine rg_lit ?_
            refine pl_val (want_no rfl) (some 21) rfl (.int .i64 0) (fun _ => by kernel_rfl) ?_
            refine pl_nil ?_
            refine au_then ?_
            refine wp_block ?_
            refine au_loop (fun j a w' => ∃ (v3 : Nat → Value) (q : List Nat) (su : Bool) (Tb : List Blk), a = ⟨#[.agg (av 5 (ls [.int .u64 (rc : Int), .int .u64 (ct : Int), .int .u64 (rk : Int), .int .u64 (lf : Int), .int .i64 (s : Int)])), .slice l1 n1 k1, .slice l2 n2 k2, .int .u64 (n : Int), .pointer (some ⟨g1, 0, none⟩), undef, undef, undef, v3 8, .int .i64 ((tot Y n1 : Nat) : Int), .int .i64 (n1 : Int), .pointer (some ⟨pa, 0, none⟩), .int .i64 0, .pointer (some ⟨pb, 0, none⟩), .int .i64 0, .slice (some ⟨gs, 0, none⟩) kk caps, .int .i64 (n1 : Int), v2 17, v2 18, v2 19, .slice (some ⟨g2, 0, none⟩) kk kk, .int .i64 (j : Int), v3 22, v3 23, v3 24, undef, undef, undef, undef, undef, .int .i64 (n1 : Int), .slice l1 n1 k1, .int .i64 (n1 : Int), .bool false, .bool false, undef, undef, .bool false, v1 38, v1 39, v1 40, v1 41, v1 42, v1 43, v1 44, v1 45, v1 46, v1 47, .int .i64 ((tot Y n1 : Nat) : Int), .bool false, .bool false, .slice l2 n2 k2, .int .i64 (n2 : Int), .bool false, .bool false, undef, .tuple #[.pointer (some ⟨pa, 0, none⟩), .int .i64 0], .agg (av 5 (ls [.string ⟨#[]⟩, .string ⟨#[]⟩, .string keyA, .string keyB, .string ⟨#[]⟩])), .int .u64 (n : Int), .agg (av 5 (ls [.int .u64 (rc : Int), .int .u64 (ct : Int), .int .u64 (rk : Int), .int .u64 (lf : Int), .int .i64 (s : Int)])), .tuple #[.pointer (some ⟨pa, 0, none⟩), .int .i64 0], .pointer (some ⟨pa, 0, none⟩), .int .i64 0, .tuple #[.pointer (some ⟨pb, 0, none⟩), .int .i64 0], .agg (av 5 (ls [.string ⟨#[]⟩, .string ⟨#[]⟩, .string keyB, .string keyA, .string ⟨#[]⟩])), .int .u64 (n : Int), .agg (av 5 (ls [.int .u64 (rc : Int), .int .u64 (ct : Int), .int .u64 (rk : Int), .int .u64 (lf : Int), .int .i64 (s : Int)])), .tuple #[.pointer (some ⟨pb, 0, none⟩), .int .i64 0], .pointer (some ⟨pb, 0, none⟩), .int .i64 0, .int .i64 0, .bool false, .bool false, .int .i64 0, .bool false, .bool false, undef, .int .i64 (n1 : Int), .slice l1 n1 k1, .int .i64 (n1 : Int), .bool false, v2 81, v2 82, v2 83, v2 84, v2 85, v2 86, v2 87, v2 88, v2 89, v2 90, v2 91, v2 92, v2 93, v2 94, v2 95, v2 96, v2 97, v2 98, v2 99, v2 100, v2 101, v2 102, v2 103, v2 104, v2 105, v2 106, v2 107, v2 108, v2 109, v2 110, v2 111, v2 112, v2 113, v2 114, v2 115, v2 116, v2 117, v2 118, v2 119, .slice (some ⟨gs, 0, none⟩) kk caps, .int .i64 ((kk : Nat) : Int), .bool false, undef, .slice (some ⟨gs, 0, none⟩) kk caps, .int .i64 ((kk : Nat) : Int), .slice (some ⟨g2, 0, none⟩) kk kk, v3 127, v3 128, v3 129, v3 130, v3 131, v3 132, v3 133, v3 134, v3 135, v3 136, v3 137, v3 138, v3 139, v3 140, v3 141, v3 142, v3 143, v3 144, v3 145, v3 146, v3 147, v3 148, v3 149, v3 150, v3 151, v3 152, v3 153, v3 154, v3 155, v3 156, v3 157, v3 158, v3 159, v3 160, v3 161, v3 162, v3 163, v3 164, v3 165, v3 166, v3 167, v3 168, v3 169, v3 170, v3 171, v3 172, v3 173, v3 174, v3 175, v3 176, v3 177, v3 178, v3 179, v3 180, v3 181, v3 182, v3 183, v3 184, v3 185, v3 186, v3 187, v3 188, v3 189, undef, undef, undef, undef, undef, undef, undef, undef, undef, undef, undef, undef, undef, undef, undef, undef, undef, undef, undef, undef, undef, undef, undef, undef, undef, undef, undef, undef, undef, undef, undef, undef], []⟩ ∧ Mem ⟨w, []⟩ (⟨gs, Zs⟩ :: ⟨g2, .cells (av kk (wi (cn q))) 3⟩ :: ⟨g1, .cells (av 5 (ls [.int .u64 (rc : Int), .int .u64 (ct : Int), .int .u64 (rk : Int), .int .u64 (lf : Int), .int .i64 (s : Int)])) 24⟩ :: (Tb ++ Ta)) w' ∧ (IsT pb ⟨rc, ct, rk, lf, s, 0, n, keyB, keyA, false, su, q⟩ Tb) ∧ (∀ t ∈ q, t < kk)) n2 ⟨fun k_ => ([v2 8, undef, undef, undef, undef, undef, undef, undef, undef, undef, undef, undef, undef, undef, undef, undef, undef, undef, undef, undef, undef, undef, undef, undef, undef, undef, undef, undef, undef, undef, undef, undef, undef, undef, undef, undef, undef, undef, undef, undef, undef, undef, undef, undef, undef, undef, undef, undef, undef, undef, undef, undef, undef, undef, undef, undef, undef, undef, undef, undef, undef, undef, undef, undef, undef, undef, undef, undef, undef, undef, undef, undef, undef, undef, undef, undef, undef, undef, undef, undef, undef, undef, undef, undef, undef, undef, undef, undef, undef, undef, undef, undef, undef, undef, undef, undef, undef, undef, undef, undef, undef, undef, undef, undef, undef, undef, undef, undef, undef, undef, undef, undef, undef, undef, undef, undef, undef, undef, undef, undef, undef, undef, undef, undef, undef, undef, undef, undef, undef, undef, undef, undef, undef, undef, undef, undef, undef, undef, undef, undef, undef, undef, undef, undef, undef, undef, undef, undef, undef, undef, undef, undef, undef, undef, undef, undef, undef, undef, undef, undef, undef, undef, undef, undef, undef, undef, undef, undef, undef, undef, undef, undef, undef, undef, undef, undef, undef, undef, undef, undef, undef, undef] : List Value).getD (k_ - 8) undef, [], false, Tpb, by kernel_rfl, by rw [cn_nil]; simpa only [List.append_assoc, List.cons_append, List.nil_append, List.append_nil] using M, Hpb, by simp⟩ ?_ ?_
            · intro j a u0 hj hI
              obtain ⟨v3, q, su, Tb, rfl, M, Hb, hq⟩ := hI
              refine wp_seq ?_
              refine wp_seq ?_
              refine rg_lit ?_
              refine pl_val (want_no rfl) (some 127) rfl (.int .i64 (j : Int)) (fun _ => by kernel_rfl) ?_
              refine pl_val (want_no rfl) (some 128) rfl (.slice l2 n2 k2) (fun _ => by kernel_rfl) ?_
              refine pl_val (want_no rfl) (some 129) rfl (.int .i64 (n2 : Int)) (fun _ => by kernel_rfl) ?_
              refine pl_val (want_no rfl) (some 130) rfl (.bool true) (fun w => Eq.trans (b := .ok (.value (.bool (decide ((j : Int) < (n2 : Int))))) w) (by kernel_rfl) (by rw [decide_eq_true (by omega)])) ?_
              refine pl_nil ?_
              refine au_then ?_
              refine wp_cond_true (by kernel_rfl) ?_
              refine wp_skip ?_
              refine au_then ?_
              refine wp_seq ?_
              refine wp_block ?_
              refine wp_seq ?_
              refine rg_lit ?_
              refine pl_val (want_no rfl) (some 133) rfl (.slice l2 n2 k2) (fun _ => by kernel_rfl) ?_
              refine pl_val (want_no rfl) (some 134) rfl (.int .i64 (j : Int)) (fun _ => by kernel_rfl) ?_
              refine pl_val (want_no rfl) (some 135) rfl (.pointer (some ⟨b2, (o2 + j * 1), none⟩)) (run_ixK 26 5 1 Tryd.underlying26 inz5 _ _ rfl l2 b2 o2 n2 k2 (by kernel_rfl) (hl2 (by omega)) .i64 j (by kernel_rfl) (by omega)) ?_
              refine pl_cell M (want_no rfl) (some 136) rfl 5 _ rfl b2 (o2 + j * 1) (by kernel_rfl) (.int .u8 ((X j : Nat) : Int)) (fun _ => by kernel_rfl) (fun w M => M.oldc (hX j (by omega)) (by simp)) ?_
              refine pl_val (want_no rfl) (some 137) rfl (.int .i64 ((X j : Nat) : Int)) (fun w => Eq.trans (b := .ok (.value (.int .i64 (cv .i64 ((X j : Nat) : Int)))) w) (by kernel_rfl) (by have := hX0 j hj; rw [cv_i64 (by omega) (by omega)])) ?_
              refine pl_val (want_no rfl) (some 138) rfl (.slice (some ⟨gs, 0, none⟩) kk caps) (fun _ => by kernel_rfl) ?_
              refine pl_val (want_no rfl) (some 139) rfl (.int .i64 (kk : Int)) (fun _ => by kernel_rfl) ?_
              refine pl_val (want_no rfl) (some 140) rfl (.int .i64 ((X j % kk : Nat) : Int)) (run_remN 3 3 _ _ rfl (X j) kk (by kernel_rfl) (by kernel_rfl) (by omega)) ?_
              refine pl_val (want_no rfl) (some 22) rfl (.int .i64 ((X j % kk : Nat) : Int)) (fun _ => by kernel_rfl) ?_
              refine pl_nil ?_
              have hr := Nat.mod_lt (X j) (show 0 < kk by omega)
              generalize X j % kk = r at hr ⊢
              by_cases c3 : (my s q r) = 0
              · skip
                have hc0 : cn q r = 0 := cn_out (my_out c3)
                have hc1 : cn (q ++ [r]) r = 1 := cn_in (by simp)
                have hsz := tot_ge Y n1 r (by omega)
                refine au_then ?_
                refine wp_seq ?_
                refine rg_held M [⟨gs, Zs⟩, ⟨g2, .cells (av kk (wi (cn q))) 3⟩, ⟨g1, .cells (av 5 (ls [.int .u64 (rc : Int), .int .u64 (ct : Int), .int .u64 (rk : Int), .int .u64 (lf : Int), .int .i64 (s : Int)])) 24⟩] 17 rfl (by kernel_rfl) (by kernel_rfl) (fun _ _ d _ _ h => by cases d <;> exact h) ?_
                intro u9 M
                replace M : Mem ⟨w, []⟩ (⟨gs, Zs⟩ :: ⟨g2, .cells (av kk (wi (cn q))) 3⟩ :: ⟨g1, .cells (av 5 (ls [.int .u64 (rc : Int), .int .u64 (ct : Int), .int .u64 (rk : Int), .int .u64 (lf : Int), .int .i64 (s : Int)])) 24⟩ :: (Tb ++ Ta)) u9 := M
                refine hl_val (M.drop (.cons_cons _ (.cons_cons _ (.cons_cons _ (List.nil_sublist _))))) 0 rfl (by decide) (by kernel_rfl) (by kernel_rfl) (want_no rfl) (some 142) rfl (.pointer (some ⟨pb, 0, none⟩)) (fun _ _ => by kernel_rfl) ?_
                refine hl_val (M.drop (.cons_cons _ (.cons_cons _ (.cons_cons _ (List.nil_sublist _))))) 1 rfl (by decide) (by kernel_rfl) (by kernel_rfl) (want_no rfl) (some 143) rfl (.int .u64 (n : Int)) (fun _ _ => by kernel_rfl) ?_
                refine hl_val (M.drop (.cons_cons _ (.cons_cons _ (.cons_cons _ (List.nil_sublist _))))) 2 rfl (by decide) (by kernel_rfl) (by kernel_rfl) (want_no rfl) (some 144) rfl (.slice (some ⟨gs, 0, none⟩) kk caps) (fun _ _ => by kernel_rfl) ?_
                refine hl_val (M.drop (.cons_cons _ (.cons_cons _ (.cons_cons _ (List.nil_sublist _))))) 3 rfl (by decide) (by kernel_rfl) (by kernel_rfl) (want_no rfl) (some 145) rfl (.int .i64 (r : Int)) (fun _ _ => by kernel_rfl) ?_
                refine hl_val (M.drop (.cons_cons _ (.cons_cons _ (.cons_cons _ (List.nil_sublist _))))) 4 rfl (by decide) (by kernel_rfl) (by kernel_rfl) (want_no rfl) (some 146) rfl (.pointer (some ⟨gs, (0 + r * 2), none⟩)) (fun w _ => (run_ixK 35 39 2 Tryd.underlying35 inz39 _ _ rfl (some ⟨gs, 0, none⟩) gs 0 kk caps (by kernel_rfl) rfl .i64 r (by kernel_rfl) hr) w) ?_
                refine hl_val (M.drop (.cons_cons _ (.cons_cons _ (.cons_cons _ (List.nil_sublist _))))) 5 rfl (by decide) (by kernel_rfl) (by kernel_rfl) (want_no rfl) (some 147) rfl (.pointer (some ⟨gs, ((0 + r * 2) + 0), none⟩)) (fun _ _ => by kernel_rfl) ?_
                refine hl_cell (M.drop (.cons_cons _ (.cons_cons _ (.cons_cons _ (List.nil_sublist _))))) 6 rfl (by decide) (by kernel_rfl) (by kernel_rfl) (want_no rfl) (some 148) rfl 22 _ rfl gs ((0 + r * 2) + 0) (by kernel_rfl) (.int .u64 (r : Int)) (fun _ => by kernel_rfl) (fun w M => hZs.cell (M.get 0 rfl) (by rw [show 0 + r * 2 + 0 = r * 2 by omega]; exact (fl2_at _ _ kk r hr).1)) ?_
                refine hl_val (M.drop (.cons_cons _ (.cons_cons _ (.cons_cons _ (List.nil_sublist _))))) 7 rfl (by decide) (by kernel_rfl) (by kernel_rfl) (want_no rfl) (some 149) rfl (.slice (some ⟨gs, 0, none⟩) kk caps) (fun _ _ => by kernel_rfl) ?_
                refine hl_val (M.drop (.cons_cons _ (.cons_cons _ (.cons_cons _ (List.nil_sublist _))))) 8 rfl (by decide) (by kernel_rfl) (by kernel_rfl) (want_no rfl) (some 150) rfl (.int .i64 (r : Int)) (fun _ _ => by kernel_rfl) ?_
                refine hl_val (M.drop (.cons_cons _ (.cons_cons _ (.cons_cons _ (List.nil_sublist _))))) 9 rfl (by decide) (by kernel_rfl) (by kernel_rfl) (want_no rfl) (some 151) rfl (.pointer (some ⟨gs, (0 + r * 2), none⟩)) (fun w _ => (run_ixK 35 39 2 Tryd.underlying35 inz39 _ _ rfl (some ⟨gs, 0, none⟩) gs 0 kk caps (by kernel_rfl) rfl .i64 r (by kernel_rfl) hr) w) ?_
                refine hl_val (M.drop (.cons_cons _ (.cons_cons _ (.cons_cons _ (List.nil_sublist _))))) 10 rfl (by decide) (by kernel_rfl) (by kernel_rfl) (want_no rfl) (some 152) rfl (.pointer (some ⟨gs, ((0 + r * 2) + 1), none⟩)) (fun _ _ => by kernel_rfl) ?_
                refine hl_cell (M.drop (.cons_cons _ (.cons_cons _ (.cons_cons _ (List.nil_sublist _))))) 11 rfl (by decide) (by kernel_rfl) (by kernel_rfl) (want_no rfl) (some 153) rfl 9 _ rfl gs ((0 + r * 2) + 1) (by kernel_rfl) (.string (sealS keyA (nS (r : Int)) ⟨#[]⟩ (Y r))) (fun _ => by kernel_rfl) (fun w M => hZs.cell (M.get 0 rfl) (by rw [show 0 + r * 2 + 1 = r * 2 + 1 by omega]; exact (fl2_at _ _ kk r hr).2)) ?_
                refine hl_one 12 (by decide) (by kernel_rfl) rfl ?_
                refine pl_callM M (want_no rfl) (some 154) rfl 9 #[.pointer (some ⟨pb, 0, none⟩), .int .u64 (n : Int), .int .u64 (r : Int), .string (sealS keyA (nS (r : Int)) ⟨#[]⟩ (Y r))] [⟨gs, Zs⟩, ⟨g2, .cells (av kk (wi (cn q))) 3⟩, ⟨g1, .cells (av 5 (ls [.int .u64 (rc : Int), .int .u64 (ct : Int), .int .u64 (rk : Int), .int .u64 (lf : Int), .int .i64 (s : Int)])) 24⟩] (Tb) (Ta) (by simp only [List.append_assoc, List.cons_append, List.nil_append, List.append_nil]) (fun T0 => .tuple #[.string (Y r), .int .i64 0]) (fun T0 => T0) (fun T0 => IsT pb ⟨rc, ct, rk, lf, s, 0, n, keyB, keyA, false, true, (q ++ [r])⟩ T0) (fun _ => by kernel_rfl) (fun w hL hT => o_ok Hb ⟨hs, hs4, m3, Nat.zero_le _⟩ hn (by omega) keyB_size keyA_size (show n - n < lf by omega) (show r < ct by omega) c3 (by omega) w hL hT) ?_
                rintro Y2 u10 J2 M
                replace M : Mem ⟨w, []⟩ (⟨gs, Zs⟩ :: ⟨g2, .cells (av kk (wi (cn q))) 3⟩ :: ⟨g1, .cells (av 5 (ls [.int .u64 (rc : Int), .int .u64 (ct : Int), .int .u64 (rk : Int), .int .u64 (lf : Int), .int .i64 (s : Int)])) 24⟩ :: (Y2 ++ Ta)) u10 := by simpa only [List.append_assoc, List.cons_append, List.nil_append, List.append_nil] using M
                refine pl_nil ?_
                refine au_then ?_
                refine ⟨(M.drop (.cons_cons _ (.cons_cons _ (.cons_cons _ (List.nil_sublist _))))), ?_⟩
                refine hl_val (M.drop (.cons_cons _ (.cons_cons _ (.cons_cons _ (List.nil_sublist _))))) 13 rfl (by decide) (by kernel_rfl) (by kernel_rfl) (want_no rfl) (some 141) rfl (.tuple #[.string (Y r), .int .i64 0]) (fun _ _ => by kernel_rfl) ?_
                refine hl_val (M.drop (.cons_cons _ (.cons_cons _ (.cons_cons _ (List.nil_sublist _))))) 14 rfl (by decide) (by kernel_rfl) (by kernel_rfl) (want_no rfl) (some 155) rfl (.string (Y r)) (fun _ _ => by kernel_rfl) ?_
                refine hl_val (M.drop (.cons_cons _ (.cons_cons _ (.cons_cons _ (List.nil_sublist _))))) 15 rfl (by decide) (by kernel_rfl) (by kernel_rfl) (want_no rfl) (some 156) rfl (.int .i64 0) (fun _ _ => by kernel_rfl) ?_
                refine hl_val (M.drop (.cons_cons _ (.cons_cons _ (.cons_cons _ (List.nil_sublist _))))) 16 rfl (by decide) (by kernel_rfl) (by kernel_rfl) (want_no rfl) (some 23) rfl (.string (Y r)) (fun _ _ => by kernel_rfl) ?_
                refine hl_end (by kernel_rfl) (by kernel_rfl) rfl ?_
                refine pl_val (want_no rfl) (some 24) rfl (.int .i64 0) (fun _ => by kernel_rfl) ?_
                refine pl_nil ?_
                refine au_then ?_
                refine au_then ?_
                refine wp_seq ?_
                refine wp_seq ?_
                refine rg_lit ?_
                refine pl_val (want_no rfl) (some 157) rfl (.int .i64 0) (fun _ => by kernel_rfl) ?_
                refine pl_val (want_no rfl) (some 158) rfl (.bool true) (fun _ => by kernel_rfl) ?_
                refine pl_nil ?_
                refine au_then ?_
                refine wp_cond_true (by kernel_rfl) ?_
                refine wp_seq ?_
                refine rg_lit ?_
                refine pl_val (want_no rfl) (some 159) rfl (.slice (some ⟨g2, 0, none⟩) kk kk) (fun _ => by kernel_rfl) ?_
                refine pl_val (want_no rfl) (some 160) rfl (.int .i64 (r : Int)) (fun _ => by kernel_rfl) ?_
                refine pl_val (want_no rfl) (some 161) rfl (.pointer (some ⟨g2, r, none⟩)) (run_ix0 40 3 Tryd.underlying40 inz3 _ _ rfl g2 kk kk (by kernel_rfl) .i64 r (by kernel_rfl) hr) ?_
                refine pl_cell M (want_no rfl) (some 162) rfl 3 _ rfl g2 r (by kernel_rfl) (.int .i64 ((cn q) r)) (fun _ => by kernel_rfl) (fun w M => M.cell 1 rfl hr rfl) ?_
                refine pl_val (want_no rfl) (some 163) rfl (.int .i64 (((cn q) r) + 1)) (fun w => Eq.trans (b := .ok (.value (.int .i64 (IntKind.wrap .i64 (((cn q) r) + 1)))) w) (by kernel_rfl) (by rw [wrap64 (by omega) (by omega)])) ?_
                refine pl_val (want_no rfl) (some 164) rfl (.pointer (some ⟨g2, r, none⟩)) (run_ix0 40 3 Tryd.underlying40 inz3 _ _ rfl g2 kk kk (by kernel_rfl) .i64 r (by kernel_rfl) hr) ?_
                refine pl_put1 M (want_no rfl) rfl 3 _ _ rfl 1 g2 r (by kernel_rfl) kk 3 (wi (cn q)) rfl (.int .i64 (((cn q) r) + 1)) (wi (upd (cn q) r (((cn q) r) + 1))) (by kernel_rfl) inz3 hr rfl rfl (fun j _ => put_wi _ _ _ j) ?_
                intro u11 M
                replace M : Mem ⟨w, []⟩ (⟨gs, Zs⟩ :: ⟨g2, .cells (av kk (wi (upd (cn q) r (((cn q) r) + 1)))) 3⟩ :: ⟨g1, .cells (av 5 (ls [.int .u64 (rc : Int), .int .u64 (ct : Int), .int .u64 (rk : Int), .int .u64 (lf : Int), .int .i64 (s : Int)])) 24⟩ :: (Y2 ++ Ta)) u11 := M
                refine pl_nil ?_
                rw [cn_upd hc0] at M
                replace M : Mem ⟨w, []⟩ (⟨gs, Zs⟩ :: ⟨g2, .cells (av kk (wi (cn (q ++ [r])))) 3⟩ :: ⟨g1, .cells (av 5 (ls [.int .u64 (rc : Int), .int .u64 (ct : Int), .int .u64 (rk : Int), .int .u64 (lf : Int), .int .i64 (s : Int)])) 24⟩ :: (Y2 ++ Ta)) u11 := M
                refine au_then ?_
                refine wp_seq ?_
                refine rg_lit ?_
                refine pl_val (want_no rfl) (some 165) rfl (.string (Y r)) (fun _ => by kernel_rfl) ?_
                refine pl_val (want_no rfl) (some 166) rfl (.slice l1 n1 k1) (fun _ => by kernel_rfl) ?_
                refine pl_val (want_no rfl) (some 167) rfl (.int .i64 (r : Int)) (fun _ => by kernel_rfl) ?_
                refine pl_val (want_no rfl) (some 168) rfl (.pointer (some ⟨b1, (o1 + r * 1), none⟩)) (run_ixK 25 9 1 Tryd.underlying25 inz9 _ _ rfl l1 b1 o1 n1 k1 (by kernel_rfl) (hl1 (by omega)) .i64 r (by kernel_rfl) (by omega)) ?_
                refine pl_cell M (want_no rfl) (some 169) rfl 9 _ rfl b1 (o1 + r * 1) (by kernel_rfl) (.string (Y r)) (fun _ => by kernel_rfl) (fun w M => M.oldc (hY r (by omega)) (by simp)) ?_
                refine pl_val (want_no rfl) (some 170) rfl (.bool false) (fun w => Eq.trans (b := .ok (.value (.bool (!((Y r).toList == (Y r).toList)))) w) (by kernel_rfl) (by rw [beq_self_eq_true]; rfl)) ?_
                refine pl_nil ?_
                refine au_then ?_
                refine wp_cond_false (by kernel_rfl) ?_
                refine wp_skip ?_
                refine au_then ?_
                refine wp_seq ?_
                refine rg_lit ?_
                refine pl_val (want_no rfl) (some 171) rfl (.slice (some ⟨g2, 0, none⟩) kk kk) (fun _ => by kernel_rfl) ?_
                refine pl_val (want_no rfl) (some 172) rfl (.int .i64 (r : Int)) (fun _ => by kernel_rfl) ?_
                refine pl_val (want_no rfl) (some 173) rfl (.pointer (some ⟨g2, r, none⟩)) (run_ix0 40 3 Tryd.underlying40 inz3 _ _ rfl g2 kk kk (by kernel_rfl) .i64 r (by kernel_rfl) hr) ?_
                refine pl_cell M (want_no rfl) (some 174) rfl 3 _ rfl g2 r (by kernel_rfl) (.int .i64 ((cn (q ++ [r])) r)) (fun _ => by kernel_rfl) (fun w M => M.cell 1 rfl hr rfl) ?_
                by_cases c4 : 1 < ((cn (q ++ [r])) r)
                · exfalso; omega
                · skip
                  refine pl_val (want_no rfl) (some 175) rfl (.bool false) (fun w => Eq.trans (b := .ok (.value (.bool (decide (1 < ((cn (q ++ [r])) r))))) w) (by kernel_rfl) (by rw [decide_eq_false (c4)])) ?_
                  refine pl_val (want_no rfl) (some 176) rfl (.bool false) (fun _ => by kernel_rfl) ?_
                  refine pl_val (want_on 5 false rfl 176 rfl (by kernel_rfl)) (some 177) rfl (.slice (some ⟨g2, 0, none⟩) kk kk) (fun _ => by kernel_rfl) ?_
                  refine pl_val (want_on 5 false rfl 176 rfl (by kernel_rfl)) (some 178) rfl (.int .i64 (r : Int)) (fun _ => by kernel_rfl) ?_
                  refine pl_val (want_on 5 false rfl 176 rfl (by kernel_rfl)) (some 179) rfl (.pointer (some ⟨g2, r, none⟩)) (run_ix0 40 3 Tryd.underlying40 inz3 _ _ rfl g2 kk kk (by kernel_rfl) .i64 r (by kernel_rfl) hr) ?_
                  refine pl_cell M (want_on 5 false rfl 176 rfl (by kernel_rfl)) (some 180) rfl 3 _ rfl g2 r (by kernel_rfl) (.int .i64 ((cn (q ++ [r])) r)) (fun _ => by kernel_rfl) (fun w M => M.cell 1 rfl hr rfl) ?_
                  by_cases c5 : ((cn (q ++ [r])) r) = 0
                  · exfalso; omega
                  · skip
                    refine pl_val (want_on 5 false rfl 176 rfl (by kernel_rfl)) (some 181) rfl (.bool false) (fun w => Eq.trans (b := .ok (.value (.bool (decide (((cn (q ++ [r])) r) = 0)))) w) (by kernel_rfl) (by rw [decide_eq_false (c5)])) ?_
                    refine pl_val (want_on 5 false rfl 176 rfl (by kernel_rfl)) (some 182) rfl (.bool false) (fun _ => by kernel_rfl) ?_
                    refine pl_skip (want_off 11 true rfl 182 rfl (by kernel_rfl)) (some 183) rfl ?_
                    refine pl_skip (want_off 11 true rfl 182 rfl (by kernel_rfl)) (some 184) rfl ?_
                    refine pl_skip (want_off 11 true rfl 182 rfl (by kernel_rfl)) (some 185) rfl ?_
                    refine pl_skip (want_off 11 true rfl 182 rfl (by kernel_rfl)) (some 186) rfl ?_
                    refine pl_skip (want_off 11 true rfl 182 rfl (by kernel_rfl)) (some 187) rfl ?_
                    refine pl_val (want_on 5 false rfl 176 rfl (by kernel_rfl)) (some 188) rfl (.bool false) (fun _ => by kernel_rfl) ?_
                    refine pl_val (want_no rfl) (some 189) rfl (.bool false) (fun _ => by kernel_rfl) ?_
                    refine pl_nil ?_
                    refine au_then ?_
                    refine wp_cond_false (by kernel_rfl) ?_
                    refine wp_skip ?_
                    refine au_block ?_
                    refine au_then ?_
                    refine rg_lit ?_
                    refine pl_val (want_no rfl) (some 131) rfl (.int .i64 (j : Int)) (fun _ => by kernel_rfl) ?_
                    refine pl_val (want_no rfl) (some 132) rfl (.int .i64 ((j + 1 : Nat) : Int)) (fun w => Eq.trans (b := .ok (.value (.int .i64 (IntKind.wrap .i64 ((j : Int) + 1)))) w) (by kernel_rfl) (by rw [wrap64 (by omega) (by omega)]; rfl)) ?_
                    refine pl_val (want_no rfl) (some 21) rfl (.int .i64 ((j + 1 : Nat) : Int)) (fun _ => by kernel_rfl) ?_
                    refine pl_nil ?_
                    refine au_then ?_
                    exact ⟨fun k_ => ([v3 8, undef, undef, undef, undef, undef, undef, undef, undef, undef, undef, undef, undef, undef, .int .i64 (r : Int), .string (Y r), .int .i64 0, undef, undef, undef, undef, undef, undef, undef, undef, undef, undef, undef, undef, undef, undef, undef, undef, undef, undef, undef, undef, undef, undef, undef, undef, undef, undef, undef, undef, undef, undef, undef, undef, undef, undef, undef, undef, undef, undef, undef, undef, undef, undef, undef, undef, undef, undef, undef, undef, undef, undef, undef, undef, undef, undef, undef, undef, undef, undef, undef, undef, undef, undef, undef, undef, undef, undef, undef, undef, undef, undef, undef, undef, undef, undef, undef, undef, undef, undef, undef, undef, undef, undef, undef, undef, undef, undef, undef, undef, undef, undef, undef, undef, undef, undef, undef, undef, undef, undef, undef, undef, undef, undef, .int .i64 (j : Int), .slice l2 n2 k2, .int .i64 (n2 : Int), .bool true, .int .i64 (j : Int), .int .i64 ((j + 1 : Nat) : Int), .slice l2 n2 k2, .int .i64 (j : Int), .pointer (some ⟨b2, (o2 + j * 1), none⟩), .int .u8 ((X j : Nat) : Int), .int .i64 ((X j : Nat) : Int), .slice (some ⟨gs, 0, none⟩) kk caps, .int .i64 (kk : Int), .int .i64 (r : Int), .tuple #[.string (Y r), .int .i64 0], .pointer (some ⟨pb, 0, none⟩), .int .u64 (n : Int), .slice (some ⟨gs, 0, none⟩) kk caps, .int .i64 (r : Int), .pointer (some ⟨gs, (0 + r * 2), none⟩), .pointer (some ⟨gs, ((0 + r * 2) + 0), none⟩), .int .u64 (r : Int), .slice (some ⟨gs, 0, none⟩) kk caps, .int .i64 (r : Int), .pointer (some ⟨gs, (0 + r * 2), none⟩), .pointer (some ⟨gs, ((0 + r * 2) + 1), none⟩), .string (sealS keyA (nS (r : Int)) ⟨#[]⟩ (Y r)), .tuple #[.string (Y r), .int .i64 0], .string (Y r), .int .i64 0, .int .i64 0, .bool true, .slice (some ⟨g2, 0, none⟩) kk kk, .int .i64 (r : Int), .pointer (some ⟨g2, r, none⟩), .int .i64 ((cn q) r), .int .i64 (((cn q) r) + 1), .pointer (some ⟨g2, r, none⟩), .string (Y r), .slice l1 n1 k1, .int .i64 (r : Int), .pointer (some ⟨b1, (o1 + r * 1), none⟩), .string (Y r), .bool false, .slice (some ⟨g2, 0, none⟩) kk kk, .int .i64 (r : Int), .pointer (some ⟨g2, r, none⟩), .int .i64 ((cn (q ++ [r])) r), .bool false, .bool false, .slice (some ⟨g2, 0, none⟩) kk kk, .int .i64 (r : Int), .pointer (some ⟨g2, r, none⟩), .int .i64 ((cn (q ++ [r])) r), .bool false, .bool false, undef, undef, undef, undef, undef, .bool false, .bool false] : List Value).getD (k_ - 8) undef, q ++ [r], true, Y2, by kernel_rfl, M, J2, fun t ht => (List.mem_append.1 ht).elim (fun h => hq t h) (fun h => by rw [List.mem_singleton.1 h]; exact hr)⟩
              · skip
                by_cases c4 : r ∈ q
                · skip
                  have hc1 : cn q r = 1 := cn_in c4
                  refine au_then ?_
                  refine wp_seq ?_
                  refine rg_held M [⟨gs, Zs⟩, ⟨g2, .cells (av kk (wi (cn q))) 3⟩, ⟨g1, .cells (av 5 (ls [.int .u64 (rc : Int), .int .u64 (ct : Int), .int .u64 (rk : Int), .int .u64 (lf : Int), .int .i64 (s : Int)])) 24⟩] 17 rfl (by kernel_rfl) (by kernel_rfl) (fun _ _ d _ _ h => by cases d <;> exact h) ?_
                  intro u9 M
                  replace M : Mem ⟨w, []⟩ (⟨gs, Zs⟩ :: ⟨g2, .cells (av kk (wi (cn q))) 3⟩ :: ⟨g1, .cells (av 5 (ls [.int .u64 (rc : Int), .int .u64 (ct : Int), .int .u64 (rk : Int), .int .u64 (lf : Int), .int .i64 (s : Int)])) 24⟩ :: (Tb ++ Ta)) u9 := M
                  refine hl_val (M.drop (.cons_cons _ (.cons_cons _ (.cons_cons _ (List.nil_sublist _))))) 0 rfl (by decide) (by kernel_rfl) (by kernel_rfl) (want_no rfl) (some 142) rfl (.pointer (some ⟨pb, 0, none⟩)) (fun _ _ => by kernel_rfl) ?_
                  refine hl_val (M.drop (.cons_cons _ (.cons_cons _ (.cons_cons _ (List.nil_sublist _))))) 1 rfl (by decide) (by kernel_rfl) (by kernel_rfl) (want_no rfl) (some 143) rfl (.int .u64 (n : Int)) (fun _ _ => by kernel_rfl) ?_
                  refine hl_val (M.drop (.cons_cons _ (.cons_cons _ (.cons_cons _ (List.nil_sublist _))))) 2 rfl (by decide) (by kernel_rfl) (by kernel_rfl) (want_no rfl) (some 144) rfl (.slice (some ⟨gs, 0, none⟩) kk caps) (fun _ _ => by kernel_rfl) ?_
                  refine hl_val (M.drop (.cons_cons _ (.cons_cons _ (.cons_cons _ (List.nil_sublist _))))) 3 rfl (by decide) (by kernel_rfl) (by kernel_rfl) (want_no rfl) (some 145) rfl (.int .i64 (r : Int)) (fun _ _ => by kernel_rfl) ?_
                  refine hl_val (M.drop (.cons_cons _ (.cons_cons _ (.cons_cons _ (List.nil_sublist _))))) 4 rfl (by decide) (by kernel_rfl) (by kernel_rfl) (want_no rfl) (some 146) rfl (.pointer (some ⟨gs, (0 + r * 2), none⟩)) (fun w _ => (run_ixK 35 39 2 Tryd.underlying35 inz39 _ _ rfl (some ⟨gs, 0, none⟩) gs 0 kk caps (by kernel_rfl) rfl .i64 r (by kernel_rfl) hr) w) ?_
                  refine hl_val (M.drop (.cons_cons _ (.cons_cons _ (.cons_cons _ (List.nil_sublist _))))) 5 rfl (by decide) (by kernel_rfl) (by kernel_rfl) (want_no rfl) (some 147) rfl (.pointer (some ⟨gs, ((0 + r * 2) + 0), none⟩)) (fun _ _ => by kernel_rfl) ?_
                  refine hl_cell (M.drop (.cons_cons _ (.cons_cons _ (.cons_cons _ (List.nil_sublist _))))) 6 rfl (by decide) (by kernel_rfl) (by kernel_rfl) (want_no rfl) (some 148) rfl 22 _ rfl gs ((0 + r * 2) + 0) (by kernel_rfl) (.int .u64 (r : Int)) (fun _ => by kernel_rfl) (fun w M => hZs.cell (M.get 0 rfl) (by rw [show 0 + r * 2 + 0 = r * 2 by omega]; exact (fl2_at _ _ kk r hr).1)) ?_
                  refine hl_val (M.drop (.cons_cons _ (.cons_cons _ (.cons_cons _ (List.nil_sublist _))))) 7 rfl (by decide) (by kernel_rfl) (by kernel_rfl) (want_no rfl) (some 149) rfl (.slice (some ⟨gs, 0, none⟩) kk caps) (fun _ _ => by kernel_rfl) ?_
                  refine hl_val (M.drop (.cons_cons _ (.cons_cons _ (.cons_cons _ (List.nil_sublist _))))) 8 rfl (by decide) (by kernel_rfl) (by kernel_rfl) (want_no rfl) (some 150) rfl (.int .i64 (r : Int)) (fun _ _ => by kernel_rfl) ?_
                  refine hl_val (M.drop (.cons_cons _ (.cons_cons _ (.cons_cons _ (List.nil_sublist _))))) 9 rfl (by decide) (by kernel_rfl) (by kernel_rfl) (want_no rfl) (some 151) rfl (.pointer (some ⟨gs, (0 + r * 2), none⟩)) (fun w _ => (run_ixK 35 39 2 Tryd.underlying35 inz39 _ _ rfl (some ⟨gs, 0, none⟩) gs 0 kk caps (by kernel_rfl) rfl .i64 r (by kernel_rfl) hr) w) ?_
                  refine hl_val (M.drop (.cons_cons _ (.cons_cons _ (.cons_cons _ (List.nil_sublist _))))) 10 rfl (by decide) (by kernel_rfl) (by kernel_rfl) (want_no rfl) (some 152) rfl (.pointer (some ⟨gs, ((0 + r * 2) + 1), none⟩)) (fun _ _ => by kernel_rfl) ?_
                  refine hl_cell (M.drop (.cons_cons _ (.cons_cons _ (.cons_cons _ (List.nil_sublist _))))) 11 rfl (by decide) (by kernel_rfl) (by kernel_rfl) (want_no rfl) (some 153) rfl 9 _ rfl gs ((0 + r * 2) + 1) (by kernel_rfl) (.string (sealS keyA (nS (r : Int)) ⟨#[]⟩ (Y r))) (fun _ => by kernel_rfl) (fun w M => hZs.cell (M.get 0 rfl) (by rw [show 0 + r * 2 + 1 = r * 2 + 1 by omega]; exact (fl2_at _ _ kk r hr).2)) ?_
                  refine hl_one 12 (by decide) (by kernel_rfl) rfl ?_
                  refine pl_callM M (want_no rfl) (some 154) rfl 9 #[.pointer (some ⟨pb, 0, none⟩), .int .u64 (n : Int), .int .u64 (r : Int), .string (sealS keyA (nS (r : Int)) ⟨#[]⟩ (Y r))] [⟨gs, Zs⟩, ⟨g2, .cells (av kk (wi (cn q))) 3⟩, ⟨g1, .cells (av 5 (ls [.int .u64 (rc : Int), .int .u64 (ct : Int), .int .u64 (rk : Int), .int .u64 (lf : Int), .int .i64 (s : Int)])) 24⟩] (Tb) (Ta) (by simp only [List.append_assoc, List.cons_append, List.nil_append, List.append_nil]) (fun T0 => .tuple #[.string ⟨#[]⟩, .int .i64 (my s q r)]) (fun T0 => T0) (fun T0 => IsT pb ⟨rc, ct, rk, lf, s, 0, n, keyB, keyA, false, su, q⟩ T0) (fun _ => by kernel_rfl) (fun w hL hT => o_no Hb ⟨hs, hs4, m3, Nat.zero_le _⟩ hn (by omega) keyB_size (show n - n < lf by omega) (show r < ct by omega) c3 w hL hT) ?_
                  rintro Y2 u10 J2 M
                  replace M : Mem ⟨w, []⟩ (⟨gs, Zs⟩ :: ⟨g2, .cells (av kk (wi (cn q))) 3⟩ :: ⟨g1, .cells (av 5 (ls [.int .u64 (rc : Int), .int .u64 (ct : Int), .int .u64 (rk : Int), .int .u64 (lf : Int), .int .i64 (s : Int)])) 24⟩ :: (Y2 ++ Ta)) u10 := by simpa only [List.append_assoc, List.cons_append, List.nil_append, List.append_nil] using M
                  refine pl_nil ?_
                  refine au_then ?_
                  refine ⟨(M.drop (.cons_cons _ (.cons_cons _ (.cons_cons _ (List.nil_sublist _))))), ?_⟩
                  refine hl_val (M.drop (.cons_cons _ (.cons_cons _ (.cons_cons _ (List.nil_sublist _))))) 13 rfl (by decide) (by kernel_rfl) (by kernel_rfl) (want_no rfl) (some 141) rfl (.tuple #[.string ⟨#[]⟩, .int .i64 (my s q r)]) (fun _ _ => by kernel_rfl) ?_
                  refine hl_val (M.drop (.cons_cons _ (.cons_cons _ (.cons_cons _ (List.nil_sublist _))))) 14 rfl (by decide) (by kernel_rfl) (by kernel_rfl) (want_no rfl) (some 155) rfl (.string ⟨#[]⟩) (fun _ _ => by kernel_rfl) ?_
                  refine hl_val (M.drop (.cons_cons _ (.cons_cons _ (.cons_cons _ (List.nil_sublist _))))) 15 rfl (by decide) (by kernel_rfl) (by kernel_rfl) (want_no rfl) (some 156) rfl (.int .i64 (my s q r)) (fun _ _ => by kernel_rfl) ?_
                  refine hl_val (M.drop (.cons_cons _ (.cons_cons _ (.cons_cons _ (List.nil_sublist _))))) 16 rfl (by decide) (by kernel_rfl) (by kernel_rfl) (want_no rfl) (some 23) rfl (.string ⟨#[]⟩) (fun _ _ => by kernel_rfl) ?_
                  refine hl_end (by kernel_rfl) (by kernel_rfl) rfl ?_
                  refine pl_val (want_no rfl) (some 24) rfl (.int .i64 (my s q r)) (fun _ => by kernel_rfl) ?_
                  refine pl_nil ?_
                  refine au_then ?_
                  refine au_then ?_
                  refine wp_seq ?_
                  refine wp_seq ?_
                  refine rg_lit ?_
                  refine pl_val (want_no rfl) (some 157) rfl (.int .i64 (my s q r)) (fun _ => by kernel_rfl) ?_
                  refine pl_val (want_no rfl) (some 158) rfl (.bool false) (fun w => Eq.trans (b := .ok (.value (.bool (decide ((my s q r) = 0)))) w) (by kernel_rfl) (by rw [decide_eq_false (c3)])) ?_
                  refine pl_nil ?_
                  refine au_then ?_
                  refine wp_cond_false (by kernel_rfl) ?_
                  refine wp_skip ?_
                  refine au_then ?_
                  refine wp_seq ?_
                  refine rg_lit ?_
                  refine pl_val (want_no rfl) (some 171) rfl (.slice (some ⟨g2, 0, none⟩) kk kk) (fun _ => by kernel_rfl) ?_
                  refine pl_val (want_no rfl) (some 172) rfl (.int .i64 (r : Int)) (fun _ => by kernel_rfl) ?_
                  refine pl_val (want_no rfl) (some 173) rfl (.pointer (some ⟨g2, r, none⟩)) (run_ix0 40 3 Tryd.underlying40 inz3 _ _ rfl g2 kk kk (by kernel_rfl) .i64 r (by kernel_rfl) hr) ?_
                  refine pl_cell M (want_no rfl) (some 174) rfl 3 _ rfl g2 r (by kernel_rfl) (.int .i64 ((cn q) r)) (fun _ => by kernel_rfl) (fun w M => M.cell 1 rfl hr rfl) ?_
                  by_cases c5 : 1 < ((cn q) r)
                  · exfalso; omega
                  · skip
                    refine pl_val (want_no rfl) (some 175) rfl (.bool false) (fun w => Eq.trans (b := .ok (.value (.bool (decide (1 < ((cn q) r))))) w) (by kernel_rfl) (by rw [decide_eq_false (c5)])) ?_
                    refine pl_val (want_no rfl) (some 176) rfl (.bool false) (fun _ => by kernel_rfl) ?_
                    refine pl_val (want_on 5 false rfl 176 rfl (by kernel_rfl)) (some 177) rfl (.slice (some ⟨g2, 0, none⟩) kk kk) (fun _ => by kernel_rfl) ?_
                    refine pl_val (want_on 5 false rfl 176 rfl (by kernel_rfl)) (some 178) rfl (.int .i64 (r : Int)) (fun _ => by kernel_rfl) ?_
                    refine pl_val (want_on 5 false rfl 176 rfl (by kernel_rfl)) (some 179) rfl (.pointer (some ⟨g2, r, none⟩)) (run_ix0 40 3 Tryd.underlying40 inz3 _ _ rfl g2 kk kk (by kernel_rfl) .i64 r (by kernel_rfl) hr) ?_
                    refine pl_cell M (want_on 5 false rfl 176 rfl (by kernel_rfl)) (some 180) rfl 3 _ rfl g2 r (by kernel_rfl) (.int .i64 ((cn q) r)) (fun _ => by kernel_rfl) (fun w M => M.cell 1 rfl hr rfl) ?_
                    by_cases c6 : ((cn q) r) = 0
                    · exfalso; omega
                    · skip
                      refine pl_val (want_on 5 false rfl 176 rfl (by kernel_rfl)) (some 181) rfl (.bool false) (fun w => Eq.trans (b := .ok (.value (.bool (decide (((cn q) r) = 0)))) w) (by kernel_rfl) (by rw [decide_eq_false (c6)])) ?_
                      refine pl_val (want_on 5 false rfl 176 rfl (by kernel_rfl)) (some 182) rfl (.bool false) (fun _ => by kernel_rfl) ?_
                      refine pl_skip (want_off 11 true rfl 182 rfl (by kernel_rfl)) (some 183) rfl ?_
                      refine pl_skip (want_off 11 true rfl 182 rfl (by kernel_rfl)) (some 184) rfl ?_
                      refine pl_skip (want_off 11 true rfl 182 rfl (by kernel_rfl)) (some 185) rfl ?_
                      refine pl_skip (want_off 11 true rfl 182 rfl (by kernel_rfl)) (some 186) rfl ?_
                      refine pl_skip (want_off 11 true rfl 182 rfl (by kernel_rfl)) (some 187) rfl ?_
                      refine pl_val (want_on 5 false rfl 176 rfl (by kernel_rfl)) (some 188) rfl (.bool false) (fun _ => by kernel_rfl) ?_
                      refine pl_val (want_no rfl) (some 189) rfl (.bool false) (fun _ => by kernel_rfl) ?_
                      refine pl_nil ?_
                      refine au_then ?_
                      refine wp_cond_false (by kernel_rfl) ?_
                      refine wp_skip ?_
                      refine au_block ?_
                      refine au_then ?_
                      refine rg_lit ?_
                      refine pl_val (want_no rfl) (some 131) rfl (.int .i64 (j : Int)) (fun _ => by kernel_rfl) ?_
                      refine pl_val (want_no rfl) (some 132) rfl (.int .i64 ((j + 1 : Nat) : Int)) (fun w => Eq.trans (b := .ok (.value (.int .i64 (IntKind.wrap .i64 ((j : Int) + 1)))) w) (by kernel_rfl) (by rw [wrap64 (by omega) (by omega)]; rfl)) ?_
                      refine pl_val (want_no rfl) (some 21) rfl (.int .i64 ((j + 1 : Nat) : Int)) (fun _ => by kernel_rfl) ?_
                      refine pl_nil ?_
                      refine au_then ?_
                      exact ⟨fun k_ => ([v3 8, undef, undef, undef, undef, undef, undef, undef, undef, undef, undef, undef, undef, undef, .int .i64 (r : Int), .string ⟨#[]⟩, .int .i64 (my s q r), undef, undef, undef, undef, undef, undef, undef, undef, undef, undef, undef, undef, undef, undef, undef, undef, undef, undef, undef, undef, undef, undef, undef, undef, undef, undef, undef, undef, undef, undef, undef, undef, undef, undef, undef, undef, undef, undef, undef, undef, undef, undef, undef, undef, undef, undef, undef, undef, undef, undef, undef, undef, undef, undef, undef, undef, undef, undef, undef, undef, undef, undef, undef, undef, undef, undef, undef, undef, undef, undef, undef, undef, undef, undef, undef, undef, undef, undef, undef, undef, undef, undef, undef, undef, undef, undef, undef, undef, undef, undef, undef, undef, undef, undef, undef, undef, undef, undef, undef, undef, undef, undef, .int .i64 (j : Int), .slice l2 n2 k2, .int .i64 (n2 : Int), .bool true, .int .i64 (j : Int), .int .i64 ((j + 1 : Nat) : Int), .slice l2 n2 k2, .int .i64 (j : Int), .pointer (some ⟨b2, (o2 + j * 1), none⟩), .int .u8 ((X j : Nat) : Int), .int .i64 ((X j : Nat) : Int), .slice (some ⟨gs, 0, none⟩) kk caps, .int .i64 (kk : Int), .int .i64 (r : Int), .tuple #[.string ⟨#[]⟩, .int .i64 (my s q r)], .pointer (some ⟨pb, 0, none⟩), .int .u64 (n : Int), .slice (some ⟨gs, 0, none⟩) kk caps, .int .i64 (r : Int), .pointer (some ⟨gs, (0 + r * 2), none⟩), .pointer (some ⟨gs, ((0 + r * 2) + 0), none⟩), .int .u64 (r : Int), .slice (some ⟨gs, 0, none⟩) kk caps, .int .i64 (r : Int), .pointer (some ⟨gs, (0 + r * 2), none⟩), .pointer (some ⟨gs, ((0 + r * 2) + 1), none⟩), .string (sealS keyA (nS (r : Int)) ⟨#[]⟩ (Y r)), .tuple #[.string ⟨#[]⟩, .int .i64 (my s q r)], .string ⟨#[]⟩, .int .i64 (my s q r), .int .i64 (my s q r), .bool false, v3 159, v3 160, v3 161, v3 162, v3 163, v3 164, v3 165, v3 166, v3 167, v3 168, v3 169, v3 170, .slice (some ⟨g2, 0, none⟩) kk kk, .int .i64 (r : Int), .pointer (some ⟨g2, r, none⟩), .int .i64 ((cn q) r), .bool false, .bool false, .slice (some ⟨g2, 0, none⟩) kk kk, .int .i64 (r : Int), .pointer (some ⟨g2, r, none⟩), .int .i64 ((cn q) r), .bool false, .bool false, undef, undef, undef, undef, undef, .bool false, .bool false] : List Value).getD (k_ - 8) undef, q, su, Y2, by kernel_rfl, M, J2, hq⟩
                · skip
                  have hc0 : cn q r = 0 := cn_out c4
                  have hbig := my_big c3 c4 hq
                  refine au_then ?_
                  refine wp_seq ?_
                  refine rg_held M [⟨gs, Zs⟩, ⟨g2, .cells (av kk (wi (cn q))) 3⟩, ⟨g1, .cells (av 5 (ls [.int .u64 (rc : Int), .int .u64 (ct : Int), .int .u64 (rk : Int), .int .u64 (lf : Int), .int .i64 (s : Int)])) 24⟩] 17 rfl (by kernel_rfl) (by kernel_rfl) (fun _ _ d _ _ h => by cases d <;> exact h) ?_
                  intro u9 M
                  replace M : Mem ⟨w, []⟩ (⟨gs, Zs⟩ :: ⟨g2, .cells (av kk (wi (cn q))) 3⟩ :: ⟨g1, .cells (av 5 (ls [.int .u64 (rc : Int), .int .u64 (ct : Int), .int .u64 (rk : Int), .int .u64 (lf : Int), .int .i64 (s : Int)])) 24⟩ :: (Tb ++ Ta)) u9 := M
                  refine hl_val (M.drop (.cons_cons _ (.cons_cons _ (.cons_cons _ (List.nil_sublist _))))) 0 rfl (by decide) (by kernel_rfl) (by kernel_rfl) (want_no rfl) (some 142) rfl (.pointer (some ⟨pb, 0, none⟩)) (fun _ _ => by kernel_rfl) ?_
                  refine hl_val (M.drop (.cons_cons _ (.cons_cons _ (.cons_cons _ (List.nil_sublist _))))) 1 rfl (by decide) (by kernel_rfl) (by kernel_rfl) (want_no rfl) (some 143) rfl (.int .u64 (n : Int)) (fun _ _ => by kernel_rfl) ?_
                  refine hl_val (M.drop (.cons_cons _ (.cons_cons _ (.cons_cons _ (List.nil_sublist _))))) 2 rfl (by decide) (by kernel_rfl) (by kernel_rfl) (want_no rfl) (some 144) rfl (.slice (some ⟨gs, 0, none⟩) kk caps) (fun _ _ => by kernel_rfl) ?_
                  refine hl_val (M.drop (.cons_cons _ (.cons_cons _ (.cons_cons _ (List.nil_sublist _))))) 3 rfl (by decide) (by kernel_rfl) (by kernel_rfl) (want_no rfl) (some 145) rfl (.int .i64 (r : Int)) (fun _ _ => by kernel_rfl) ?_
                  refine hl_val (M.drop (.cons_cons _ (.cons_cons _ (.cons_cons _ (List.nil_sublist _))))) 4 rfl (by decide) (by kernel_rfl) (by kernel_rfl) (want_no rfl) (some 146) rfl (.pointer (some ⟨gs, (0 + r * 2), none⟩)) (fun w _ => (run_ixK 35 39 2 Tryd.underlying35 inz39 _ _ rfl (some ⟨gs, 0, none⟩) gs 0 kk caps (by kernel_rfl) rfl .i64 r (by kernel_rfl) hr) w) ?_
                  refine hl_val (M.drop (.cons_cons _ (.cons_cons _ (.cons_cons _ (List.nil_sublist _))))) 5 rfl (by decide) (by kernel_rfl) (by kernel_rfl) (want_no rfl) (some 147) rfl (.pointer (some ⟨gs, ((0 + r * 2) + 0), none⟩)) (fun _ _ => by kernel_rfl) ?_
                  refine hl_cell (M.drop (.cons_cons _ (.cons_cons _ (.cons_cons _ (List.nil_sublist _))))) 6 rfl (by decide) (by kernel_rfl) (by kernel_rfl) (want_no rfl) (some 148) rfl 22 _ rfl gs ((0 + r * 2) + 0) (by kernel_rfl) (.int .u64 (r : Int)) (fun _ => by kernel_rfl) (fun w M => hZs.cell (M.get 0 rfl) (by rw [show 0 + r * 2 + 0 = r * 2 by omega]; exact (fl2_at _ _ kk r hr).1)) ?_
                  refine hl_val (M.drop (.cons_cons _ (.cons_cons _ (.cons_cons _ (List.nil_sublist _))))) 7 rfl (by decide) (by kernel_rfl) (by kernel_rfl) (want_no rfl) (some 149) rfl (.slice (some ⟨gs, 0, none⟩) kk caps) (fun _ _ => by kernel_rfl) ?_
                  refine hl_val (M.drop (.cons_cons _ (.cons_cons _ (.cons_cons _ (List.nil_sublist _))))) 8 rfl (by decide) (by kernel_rfl) (by kernel_rfl) (want_no rfl) (some 150) rfl (.int .i64 (r : Int)) (fun _ _ => by kernel_rfl) ?_
                  refine hl_val (M.drop (.cons_cons _ (.cons_cons _ (.cons_cons _ (List.nil_sublist _))))) 9 rfl (by decide) (by kernel_rfl) (by kernel_rfl) (want_no rfl) (some 151) rfl (.pointer (some ⟨gs, (0 + r * 2), none⟩)) (fun w _ => (run_ixK 35 39 2 Tryd.underlying35 inz39 _ _ rfl (some ⟨gs, 0, none⟩) gs 0 kk caps (by kernel_rfl) rfl .i64 r (by kernel_rfl) hr) w) ?_
                  refine hl_val (M.drop (.cons_cons _ (.cons_cons _ (.cons_cons _ (List.nil_sublist _))))) 10 rfl (by decide) (by kernel_rfl) (by kernel_rfl) (want_no rfl) (some 152) rfl (.pointer (some ⟨gs, ((0 + r * 2) + 1), none⟩)) (fun _ _ => by kernel_rfl) ?_
                  refine hl_cell (M.drop (.cons_cons _ (.cons_cons _ (.cons_cons _ (List.nil_sublist _))))) 11 rfl (by decide) (by kernel_rfl) (by kernel_rfl) (want_no rfl) (some 153) rfl 9 _ rfl gs ((0 + r * 2) + 1) (by kernel_rfl) (.string (sealS keyA (nS (r : Int)) ⟨#[]⟩ (Y r))) (fun _ => by kernel_rfl) (fun w M => hZs.cell (M.get 0 rfl) (by rw [show 0 + r * 2 + 1 = r * 2 + 1 by omega]; exact (fl2_at _ _ kk r hr).2)) ?_
                  refine hl_one 12 (by decide) (by kernel_rfl) rfl ?_
                  refine pl_callM M (want_no rfl) (some 154) rfl 9 #[.pointer (some ⟨pb, 0, none⟩), .int .u64 (n : Int), .int .u64 (r : Int), .string (sealS keyA (nS (r : Int)) ⟨#[]⟩ (Y r))] [⟨gs, Zs⟩, ⟨g2, .cells (av kk (wi (cn q))) 3⟩, ⟨g1, .cells (av 5 (ls [.int .u64 (rc : Int), .int .u64 (ct : Int), .int .u64 (rk : Int), .int .u64 (lf : Int), .int .i64 (s : Int)])) 24⟩] (Tb) (Ta) (by simp only [List.append_assoc, List.cons_append, List.nil_append, List.append_nil]) (fun T0 => .tuple #[.string ⟨#[]⟩, .int .i64 (my s q r)]) (fun T0 => T0) (fun T0 => IsT pb ⟨rc, ct, rk, lf, s, 0, n, keyB, keyA, false, su, q⟩ T0) (fun _ => by kernel_rfl) (fun w hL hT => o_no Hb ⟨hs, hs4, m3, Nat.zero_le _⟩ hn (by omega) keyB_size (show n - n < lf by omega) (show r < ct by omega) c3 w hL hT) ?_
                  rintro Y2 u10 J2 M
                  replace M : Mem ⟨w, []⟩ (⟨gs, Zs⟩ :: ⟨g2, .cells (av kk (wi (cn q))) 3⟩ :: ⟨g1, .cells (av 5 (ls [.int .u64 (rc : Int), .int .u64 (ct : Int), .int .u64 (rk : Int), .int .u64 (lf : Int), .int .i64 (s : Int)])) 24⟩ :: (Y2 ++ Ta)) u10 := by simpa only [List.append_assoc, List.cons_append, List.nil_append, List.append_nil] using M
                  refine pl_nil ?_
                  refine au_then ?_
                  refine ⟨(M.drop (.cons_cons _ (.cons_cons _ (.cons_cons _ (List.nil_sublist _))))), ?_⟩
                  refine hl_val (M.drop (.cons_cons _ (.cons_cons _ (.cons_cons _ (List.nil_sublist _))))) 13 rfl (by decide) (by kernel_rfl) (by kernel_rfl) (want_no rfl) (some 141) rfl (.tuple #[.string ⟨#[]⟩, .int .i64 (my s q r)]) (fun _ _ => by kernel_rfl) ?_
                  refine hl_val (M.drop (.cons_cons _ (.cons_cons _ (.cons_cons _ (List.nil_sublist _))))) 14 rfl (by decide) (by kernel_rfl) (by kernel_rfl) (want_no rfl) (some 155) rfl (.string ⟨#[]⟩) (fun _ _ => by kernel_rfl) ?_
                  refine hl_val (M.drop (.cons_cons _ (.cons_cons _ (.cons_cons _ (List.nil_sublist _))))) 15 rfl (by decide) (by kernel_rfl) (by kernel_rfl) (want_no rfl) (some 156) rfl (.int .i64 (my s q r)) (fun _ _ => by kernel_rfl) ?_
                  refine hl_val (M.drop (.cons_cons _ (.cons_cons _ (.cons_cons _ (List.nil_sublist _))))) 16 rfl (by decide) (by kernel_rfl) (by kernel_rfl) (want_no rfl) (some 23) rfl (.string ⟨#[]⟩) (fun _ _ => by kernel_rfl) ?_
                  refine hl_end (by kernel_rfl) (by kernel_rfl) rfl ?_
                  refine pl_val (want_no rfl) (some 24) rfl (.int .i64 (my s q r)) (fun _ => by kernel_rfl) ?_
                  refine pl_nil ?_
                  refine au_then ?_
                  refine au_then ?_
                  refine wp_seq ?_
                  refine wp_seq ?_
                  refine rg_lit ?_
                  refine pl_val (want_no rfl) (some 157) rfl (.int .i64 (my s q r)) (fun _ => by kernel_rfl) ?_
                  refine pl_val (want_no rfl) (some 158) rfl (.bool false) (fun w => Eq.trans (b := .ok (.value (.bool (decide ((my s q r) = 0)))) w) (by kernel_rfl) (by rw [decide_eq_false (c3)])) ?_
                  refine pl_nil ?_
                  refine au_then ?_
                  refine wp_cond_false (by kernel_rfl) ?_
                  refine wp_skip ?_
                  refine au_then ?_
                  refine wp_seq ?_
                  refine rg_lit ?_
                  refine pl_val (want_no rfl) (some 171) rfl (.slice (some ⟨g2, 0, none⟩) kk kk) (fun _ => by kernel_rfl) ?_
                  refine pl_val (want_no rfl) (some 172) rfl (.int .i64 (r : Int)) (fun _ => by kernel_rfl) ?_
                  refine pl_val (want_no rfl) (some 173) rfl (.pointer (some ⟨g2, r, none⟩)) (run_ix0 40 3 Tryd.underlying40 inz3 _ _ rfl g2 kk kk (by kernel_rfl) .i64 r (by kernel_rfl) hr) ?_
                  refine pl_cell M (want_no rfl) (some 174) rfl 3 _ rfl g2 r (by kernel_rfl) (.int .i64 ((cn q) r)) (fun _ => by kernel_rfl) (fun w M => M.cell 1 rfl hr rfl) ?_
                  by_cases c5 : 1 < ((cn q) r)
                  · exfalso; omega
                  · skip
                    refine pl_val (want_no rfl) (some 175) rfl (.bool false) (fun w => Eq.trans (b := .ok (.value (.bool (decide (1 < ((cn q) r))))) w) (by kernel_rfl) (by rw [decide_eq_false (c5)])) ?_
                    refine pl_val (want_no rfl) (some 176) rfl (.bool false) (fun _ => by kernel_rfl) ?_
                    refine pl_val (want_on 5 false rfl 176 rfl (by kernel_rfl)) (some 177) rfl (.slice (some ⟨g2, 0, none⟩) kk kk) (fun _ => by kernel_rfl) ?_
                    refine pl_val (want_on 5 false rfl 176 rfl (by kernel_rfl)) (some 178) rfl (.int .i64 (r : Int)) (fun _ => by kernel_rfl) ?_
                    refine pl_val (want_on 5 false rfl 176 rfl (by kernel_rfl)) (some 179) rfl (.pointer (some ⟨g2, r, none⟩)) (run_ix0 40 3 Tryd.underlying40 inz3 _ _ rfl g2 kk kk (by kernel_rfl) .i64 r (by kernel_rfl) hr) ?_
                    refine pl_cell M (want_on 5 false rfl 176 rfl (by kernel_rfl)) (some 180) rfl 3 _ rfl g2 r (by kernel_rfl) (.int .i64 ((cn q) r)) (fun _ => by kernel_rfl) (fun w M => M.cell 1 rfl hr rfl) ?_
                    by_cases c6 : ((cn q) r) = 0
                    · skip
                      refine pl_val (want_on 5 false rfl 176 rfl (by kernel_rfl)) (some 181) rfl (.bool true) (fun w => Eq.trans (b := .ok (.value (.bool (decide (((cn q) r) = 0)))) w) (by kernel_rfl) (by rw [decide_eq_true (c6)])) ?_
                      refine pl_val (want_on 5 false rfl 176 rfl (by kernel_rfl)) (some 182) rfl (.bool true) (fun _ => by kernel_rfl) ?_
                      refine pl_val (want_on 11 true rfl 182 rfl (by kernel_rfl)) (some 183) rfl (.slice (some ⟨gs, 0, none⟩) kk caps) (fun _ => by kernel_rfl) ?_
                      refine pl_val (want_on 11 true rfl 182 rfl (by kernel_rfl)) (some 184) rfl (.int .i64 (kk : Int)) (fun _ => by kernel_rfl) ?_
                      refine pl_val (want_on 11 true rfl 182 rfl (by kernel_rfl)) (some 185) rfl (.pointer (some ⟨g1, 4, none⟩)) (fun _ => by kernel_rfl) ?_
                      refine pl_cell M (want_on 11 true rfl 182 rfl (by kernel_rfl)) (some 186) rfl 3 _ rfl g1 4 (by kernel_rfl) (.int .i64 (s : Int)) (fun _ => by kernel_rfl) (fun w M => M.cell 2 rfl (by decide) rfl) ?_
                      by_cases c7 : (s : Int) < (kk : Int)
                      · skip
                        refine pl_val (want_on 11 true rfl 182 rfl (by kernel_rfl)) (some 187) rfl (.bool false) (fun w => Eq.trans (b := .ok (.value (.bool (decide ((kk : Int) ≤ (s : Int))))) w) (by kernel_rfl) (by rw [decide_eq_false (by omega)])) ?_
                        refine pl_val (want_on 5 false rfl 176 rfl (by kernel_rfl)) (some 188) rfl (.bool false) (fun _ => by kernel_rfl) ?_
                        refine pl_val (want_no rfl) (some 189) rfl (.bool false) (fun _ => by kernel_rfl) ?_
                        refine pl_nil ?_
                        refine au_then ?_
                        refine wp_cond_false (by kernel_rfl) ?_
                        refine wp_skip ?_
                        refine au_block ?_
                        refine au_then ?_
                        refine rg_lit ?_
                        refine pl_val (want_no rfl) (some 131) rfl (.int .i64 (j : Int)) (fun _ => by kernel_rfl) ?_
                        refine pl_val (want_no rfl) (some 132) rfl (.int .i64 ((j + 1 : Nat) : Int)) (fun w => Eq.trans (b := .ok (.value (.int .i64 (IntKind.wrap .i64 ((j : Int) + 1)))) w) (by kernel_rfl) (by rw [wrap64 (by omega) (by omega)]; rfl)) ?_
                        refine pl_val (want_no rfl) (some 21) rfl (.int .i64 ((j + 1 : Nat) : Int)) (fun _ => by kernel_rfl) ?_
                        refine pl_nil ?_
                        refine au_then ?_
                        exact ⟨fun k_ => ([v3 8, undef, undef, undef, undef, undef, undef, undef, undef, undef, undef, undef, undef, undef, .int .i64 (r : Int), .string ⟨#[]⟩, .int .i64 (my s q r), undef, undef, undef, undef, undef, undef, undef, undef, undef, undef, undef, undef, undef, undef, undef, undef, undef, undef, undef, undef, undef, undef, undef, undef, undef, undef, undef, undef, undef, undef, undef, undef, undef, undef, undef, undef, undef, undef, undef, undef, undef, undef, undef, undef, undef, undef, undef, undef, undef, undef, undef, undef, undef, undef, undef, undef, undef, undef, undef, undef, undef, undef, undef, undef, undef, undef, undef, undef, undef, undef, undef, undef, undef, undef, undef, undef, undef, undef, undef, undef, undef, undef, undef, undef, undef, undef, undef, undef, undef, undef, undef, undef, undef, undef, undef, undef, undef, undef, undef, undef, undef, undef, .int .i64 (j : Int), .slice l2 n2 k2, .int .i64 (n2 : Int), .bool true, .int .i64 (j : Int), .int .i64 ((j + 1 : Nat) : Int), .slice l2 n2 k2, .int .i64 (j : Int), .pointer (some ⟨b2, (o2 + j * 1), none⟩), .int .u8 ((X j : Nat) : Int), .int .i64 ((X j : Nat) : Int), .slice (some ⟨gs, 0, none⟩) kk caps, .int .i64 (kk : Int), .int .i64 (r : Int), .tuple #[.string ⟨#[]⟩, .int .i64 (my s q r)], .pointer (some ⟨pb, 0, none⟩), .int .u64 (n : Int), .slice (some ⟨gs, 0, none⟩) kk caps, .int .i64 (r : Int), .pointer (some ⟨gs, (0 + r * 2), none⟩), .pointer (some ⟨gs, ((0 + r * 2) + 0), none⟩), .int .u64 (r : Int), .slice (some ⟨gs, 0, none⟩) kk caps, .int .i64 (r : Int), .pointer (some ⟨gs, (0 + r * 2), none⟩), .pointer (some ⟨gs, ((0 + r * 2) + 1), none⟩), .string (sealS keyA (nS (r : Int)) ⟨#[]⟩ (Y r)), .tuple #[.string ⟨#[]⟩, .int .i64 (my s q r)], .string ⟨#[]⟩, .int .i64 (my s q r), .int .i64 (my s q r), .bool false, v3 159, v3 160, v3 161, v3 162, v3 163, v3 164, v3 165, v3 166, v3 167, v3 168, v3 169, v3 170, .slice (some ⟨g2, 0, none⟩) kk kk, .int .i64 (r : Int), .pointer (some ⟨g2, r, none⟩), .int .i64 ((cn q) r), .bool false, .bool false, .slice (some ⟨g2, 0, none⟩) kk kk, .int .i64 (r : Int), .pointer (some ⟨g2, r, none⟩), .int .i64 ((cn q) r), .bool true, .bool true, .slice (some ⟨gs, 0, none⟩) kk caps, .int .i64 (kk : Int), .pointer (some ⟨g1, 4, none⟩), .int .i64 (s : Int), .bool false, .bool false, .bool false] : List Value).getD (k_ - 8) undef, q, su, Y2, by kernel_rfl, M, J2, hq⟩
                      · exfalso; omega
                    · exfalso; omega
            · intro a u0 hI
              obtain ⟨v3, q, su, Tb, rfl, M, Hb, hq⟩ := hI
              refine wp_seq ?_
              refine wp_seq ?_
              refine rg_lit ?_
              refine pl_val (want_no rfl) (some 127) rfl (.int .i64 (n2 : Int)) (fun _ => by kernel_rfl) ?_
              refine pl_val (want_no rfl) (some 128) rfl (.slice l2 n2 k2) (fun _ => by kernel_rfl) ?_
              refine pl_val (want_no rfl) (some 129) rfl (.int .i64 (n2 : Int)) (fun _ => by kernel_rfl) ?_
              refine pl_val (want_no rfl) (some 130) rfl (.bool false) (fun w => Eq.trans (b := .ok (.value (.bool (decide ((n2 : Int) < (n2 : Int))))) w) (by kernel_rfl) (by rw [decide_eq_false (by omega)])) ?_
              refine pl_nil ?_
              refine au_then ?_
              refine wp_cond_false (by kernel_rfl) ?_
              refine wp_exit ?_
              refine au_then_exit ?_
              refine au_then_exit ?_
              refine au_block_exit ?_
              refine au_then ?_
              refine wp_seq ?_
              refine rg_lit ?_
              refine pl_val (want_no rfl) (some 190) rfl (.pointer (some ⟨pb, 0, none⟩)) (fun _ => by kernel_rfl) ?_
              refine pl_callM M (want_no rfl) (some 191) rfl 10 #[.pointer (some ⟨pb, 0, none⟩)] [⟨gs, Zs⟩, ⟨g2, .cells (av kk (wi (cn q))) 3⟩, ⟨g1, .cells (av 5 (ls [.int .u64 (rc : Int), .int .u64 (ct : Int), .int .u64 (rk : Int), .int .u64 (lf : Int), .int .i64 (s : Int)])) 24⟩] (Tb) (Ta) (by simp only [List.append_assoc, List.cons_append, List.nil_append, List.append_nil]) (fun T0 => .tuple #[]) (fun T0 => T0) (fun T0 => IsT pb ⟨rc, ct, rk, lf, s, 0, n, ⟨#[]⟩, ⟨#[]⟩, false, su, q⟩ T0) (fun _ => by kernel_rfl) (fun w hL hT => a_Wipe Hb w hL hT) ?_
              rintro Y3 u9 J3 M
              replace M : Mem ⟨w, []⟩ (⟨gs, Zs⟩ :: ⟨g2, .cells (av kk (wi (cn q))) 3⟩ :: ⟨g1, .cells (av 5 (ls [.int .u64 (rc : Int), .int .u64 (ct : Int), .int .u64 (rk : Int), .int .u64 (lf : Int), .int .i64 (s : Int)])) 24⟩ :: (Y3 ++ Ta)) u9 := by simpa only [List.append_assoc, List.cons_append, List.nil_append, List.append_nil] using M
              refine pl_nil ?_
              refine au_then ?_
              refine wp_seq ?_
              refine rg_held M [⟨gs, Zs⟩, ⟨g2, .cells (av kk (wi (cn q))) 3⟩, ⟨g1, .cells (av 5 (ls [.int .u64 (rc : Int), .int .u64 (ct : Int), .int .u64 (rk : Int), .int .u64 (lf : Int), .int .i64 (s : Int)])) 24⟩] 15 rfl (by kernel_rfl) (by kernel_rfl) (fun _ _ d _ _ h => by cases d <;> exact h) ?_
              intro u10 M
              replace M : Mem ⟨w, []⟩ (⟨gs, Zs⟩ :: ⟨g2, .cells (av kk (wi (cn q))) 3⟩ :: ⟨g1, .cells (av 5 (ls [.int .u64 (rc : Int), .int .u64 (ct : Int), .int .u64 (rk : Int), .int .u64 (lf : Int), .int .i64 (s : Int)])) 24⟩ :: (Y3 ++ Ta)) u10 := M
              refine hl_val (M.drop (.cons_cons _ (.cons_cons _ (.cons_cons _ (List.nil_sublist _))))) 0 rfl (by decide) (by kernel_rfl) (by kernel_rfl) (want_no rfl) (some 193) rfl (.pointer (some ⟨pb, 0, none⟩)) (fun _ _ => by kernel_rfl) ?_
              refine hl_val (M.drop (.cons_cons _ (.cons_cons _ (.cons_cons _ (List.nil_sublist _))))) 1 rfl (by decide) (by kernel_rfl) (by kernel_rfl) (want_no rfl) (some 194) rfl (.int .u64 (n : Int)) (fun _ _ => by kernel_rfl) ?_
              refine hl_val (M.drop (.cons_cons _ (.cons_cons _ (.cons_cons _ (List.nil_sublist _))))) 2 rfl (by decide) (by kernel_rfl) (by kernel_rfl) (want_no rfl) (some 195) rfl (.slice (some ⟨gs, 0, none⟩) kk caps) (fun _ _ => by kernel_rfl) ?_
              refine hl_val (M.drop (.cons_cons _ (.cons_cons _ (.cons_cons _ (List.nil_sublist _))))) 3 rfl (by decide) (by kernel_rfl) (by kernel_rfl) (want_no rfl) (some 196) rfl (.pointer (some ⟨gs, (0 + 0 * 2), none⟩)) (fun w _ => (run_ixK 35 39 2 Tryd.underlying35 inz39 _ _ rfl (some ⟨gs, 0, none⟩) gs 0 kk caps (by kernel_rfl) rfl .i64 0 (by kernel_rfl) (by omega)) w) ?_
              refine hl_val (M.drop (.cons_cons _ (.cons_cons _ (.cons_cons _ (List.nil_sublist _))))) 4 rfl (by decide) (by kernel_rfl) (by kernel_rfl) (want_no rfl) (some 197) rfl (.pointer (some ⟨gs, ((0 + 0 * 2) + 0), none⟩)) (fun _ _ => by kernel_rfl) ?_
              refine hl_cell (M.drop (.cons_cons _ (.cons_cons _ (.cons_cons _ (List.nil_sublist _))))) 5 rfl (by decide) (by kernel_rfl) (by kernel_rfl) (want_no rfl) (some 198) rfl 22 _ rfl gs ((0 + 0 * 2) + 0) (by kernel_rfl) (.int .u64 0) (fun _ => by kernel_rfl) (fun w M => hZs.cell (M.get 0 rfl) (by rw [show 0 + 0 * 2 + 0 = 0 * 2 by omega]; exact (fl2_at _ _ kk 0 (by omega)).1)) ?_
              refine hl_val (M.drop (.cons_cons _ (.cons_cons _ (.cons_cons _ (List.nil_sublist _))))) 6 rfl (by decide) (by kernel_rfl) (by kernel_rfl) (want_no rfl) (some 199) rfl (.slice (some ⟨gs, 0, none⟩) kk caps) (fun _ _ => by kernel_rfl) ?_
              refine hl_val (M.drop (.cons_cons _ (.cons_cons _ (.cons_cons _ (List.nil_sublist _))))) 7 rfl (by decide) (by kernel_rfl) (by kernel_rfl) (want_no rfl) (some 200) rfl (.pointer (some ⟨gs, (0 + 0 * 2), none⟩)) (fun w _ => (run_ixK 35 39 2 Tryd.underlying35 inz39 _ _ rfl (some ⟨gs, 0, none⟩) gs 0 kk caps (by kernel_rfl) rfl .i64 0 (by kernel_rfl) (by omega)) w) ?_
              refine hl_val (M.drop (.cons_cons _ (.cons_cons _ (.cons_cons _ (List.nil_sublist _))))) 8 rfl (by decide) (by kernel_rfl) (by kernel_rfl) (want_no rfl) (some 201) rfl (.pointer (some ⟨gs, ((0 + 0 * 2) + 1), none⟩)) (fun _ _ => by kernel_rfl) ?_
              refine hl_cell (M.drop (.cons_cons _ (.cons_cons _ (.cons_cons _ (List.nil_sublist _))))) 9 rfl (by decide) (by kernel_rfl) (by kernel_rfl) (want_no rfl) (some 202) rfl 9 _ rfl gs ((0 + 0 * 2) + 1) (by kernel_rfl) (.string (sealS keyA (nS (0 : Int)) ⟨#[]⟩ (Y 0))) (fun _ => by kernel_rfl) (fun w M => hZs.cell (M.get 0 rfl) (by rw [show 0 + 0 * 2 + 1 = 0 * 2 + 1 by omega]; exact (fl2_at _ _ kk 0 (by omega)).2)) ?_
              refine hl_one 10 (by decide) (by kernel_rfl) rfl ?_
              refine pl_callM M (want_no rfl) (some 203) rfl 9 #[.pointer (some ⟨pb, 0, none⟩), .int .u64 (n : Int), .int .u64 0, .string (sealS keyA (nS (0 : Int)) ⟨#[]⟩ (Y 0))] [⟨gs, Zs⟩, ⟨g2, .cells (av kk (wi (cn q))) 3⟩, ⟨g1, .cells (av 5 (ls [.int .u64 (rc : Int), .int .u64 (ct : Int), .int .u64 (rk : Int), .int .u64 (lf : Int), .int .i64 (s : Int)])) 24⟩] (Y3) (Ta) (by simp only [List.append_assoc, List.cons_append, List.nil_append, List.append_nil]) (fun T0 => .tuple #[.string ⟨#[]⟩, .int .i64 180]) (fun T0 => T0) (fun T0 => IsT pb ⟨rc, ct, rk, lf, s, 0, n, ⟨#[]⟩, ⟨#[]⟩, false, su, q⟩ T0) (fun _ => by kernel_rfl) (fun w hL hT => o_over (i := 0) J3 ⟨hs, hs4, m3, Nat.zero_le _⟩ hn (by omega) (oF_gone (ov_wiped rfl)) w hL hT) ?_
              rintro Y4 u11 J4 M
              replace M : Mem ⟨w, []⟩ (⟨gs, Zs⟩ :: ⟨g2, .cells (av kk (wi (cn q))) 3⟩ :: ⟨g1, .cells (av 5 (ls [.int .u64 (rc : Int), .int .u64 (ct : Int), .int .u64 (rk : Int), .int .u64 (lf : Int), .int .i64 (s : Int)])) 24⟩ :: (Y4 ++ Ta)) u11 := by simpa only [List.append_assoc, List.cons_append, List.nil_append, List.append_nil] using M
              refine pl_nil ?_
              refine au_then ?_
              refine ⟨(M.drop (.cons_cons _ (.cons_cons _ (.cons_cons _ (List.nil_sublist _))))), ?_⟩
              refine hl_val (M.drop (.cons_cons _ (.cons_cons _ (.cons_cons _ (List.nil_sublist _))))) 11 rfl (by decide) (by kernel_rfl) (by kernel_rfl) (want_no rfl) (some 192) rfl (.tuple #[.string ⟨#[]⟩, .int .i64 180]) (fun _ _ => by kernel_rfl) ?_
              refine hl_val (M.drop (.cons_cons _ (.cons_cons _ (.cons_cons _ (List.nil_sublist _))))) 12 rfl (by decide) (by kernel_rfl) (by kernel_rfl) (want_no rfl) (some 204) rfl (.string ⟨#[]⟩) (fun _ _ => by kernel_rfl) ?_
              refine hl_val (M.drop (.cons_cons _ (.cons_cons _ (.cons_cons _ (List.nil_sublist _))))) 13 rfl (by decide) (by kernel_rfl) (by kernel_rfl) (want_no rfl) (some 205) rfl (.int .i64 180) (fun _ _ => by kernel_rfl) ?_
              refine hl_val (M.drop (.cons_cons _ (.cons_cons _ (.cons_cons _ (List.nil_sublist _))))) 14 rfl (by decide) (by kernel_rfl) (by kernel_rfl) (want_no rfl) (some 25) rfl (.string ⟨#[]⟩) (fun _ _ => by kernel_rfl) ?_
              refine hl_end (by kernel_rfl) (by kernel_rfl) rfl ?_
              refine pl_val (want_no rfl) (some 26) rfl (.int .i64 180) (fun _ => by kernel_rfl) ?_
              refine pl_nil ?_
              refine au_then ?_
              refine au_then ?_
              refine wp_seq ?_
              refine rg_lit ?_
              refine pl_val (want_no rfl) (some 207) rfl (.pointer (some ⟨pb, 0, none⟩)) (fun _ => by kernel_rfl) ?_
              refine pl_val (want_no rfl) (some 208) rfl (.int .u64 (n : Int)) (fun _ => by kernel_rfl) ?_
              refine pl_callM M (want_no rfl) (some 209) rfl 8 #[.pointer (some ⟨pb, 0, none⟩), .int .u64 (n : Int), .string ⟨#[120]⟩] [⟨gs, Zs⟩, ⟨g2, .cells (av kk (wi (cn q))) 3⟩, ⟨g1, .cells (av 5 (ls [.int .u64 (rc : Int), .int .u64 (ct : Int), .int .u64 (rk : Int), .int .u64 (lf : Int), .int .i64 (s : Int)])) 24⟩] (Y4) (Ta) (by simp only [List.append_assoc, List.cons_append, List.nil_append, List.append_nil]) (fun T0 => .tuple #[.int .u64 0, .string ⟨#[]⟩, .int .i64 180]) (fun T0 => T0) (fun T0 => IsT pb ⟨rc, ct, rk, lf, s, 0, n, ⟨#[]⟩, ⟨#[]⟩, false, su, q⟩ T0) (fun _ => by kernel_rfl) (fun w hL hT => s_over J4 ⟨hs, hs4, m3, Nat.zero_le _⟩ hn (sF_gone (ov_wiped rfl)) w hL hT) ?_
              rintro Y5 u12 J5 M
              replace M : Mem ⟨w, []⟩ (⟨gs, Zs⟩ :: ⟨g2, .cells (av kk (wi (cn q))) 3⟩ :: ⟨g1, .cells (av 5 (ls [.int .u64 (rc : Int), .int .u64 (ct : Int), .int .u64 (rk : Int), .int .u64 (lf : Int), .int .i64 (s : Int)])) 24⟩ :: (Y5 ++ Ta)) u12 := by simpa only [List.append_assoc, List.cons_append, List.nil_append, List.append_nil] using M
              refine pl_val (want_no rfl) (some 206) rfl (.tuple #[.int .u64 0, .string ⟨#[]⟩, .int .i64 180]) (fun _ => by kernel_rfl) ?_
              refine pl_val (want_no rfl) (some 210) rfl (.int .u64 0) (fun _ => by kernel_rfl) ?_
              refine pl_val (want_no rfl) (some 211) rfl (.string ⟨#[]⟩) (fun _ => by kernel_rfl) ?_
              refine pl_val (want_no rfl) (some 212) rfl (.int .i64 180) (fun _ => by kernel_rfl) ?_
              refine pl_val (want_no rfl) (some 27) rfl (.int .u64 0) (fun _ => by kernel_rfl) ?_
              refine pl_val (want_no rfl) (some 28) rfl (.string ⟨#[]⟩) (fun _ => by kernel_rfl) ?_
              refine pl_val (want_no rfl) (some 29) rfl (.int .i64 180) (fun _ => by kernel_rfl) ?_
              refine pl_nil ?_
              refine au_then ?_
              refine wp_seq ?_
              refine rg_lit ?_
              refine pl_val (want_no rfl) (some 213) rfl (.int .i64 180) (fun _ => by kernel_rfl) ?_
              refine pl_val (want_no rfl) (some 214) rfl (.bool true) (fun _ => by kernel_rfl) ?_
              refine pl_val (want_no rfl) (some 215) rfl (.bool true) (fun _ => by kernel_rfl) ?_
              refine pl_val (want_on 2 true rfl 215 rfl (by kernel_rfl)) (some 216) rfl (.int .i64 180) (fun _ => by kernel_rfl) ?_
              refine pl_val (want_on 2 true rfl 215 rfl (by kernel_rfl)) (some 217) rfl (.bool true) (fun _ => by kernel_rfl) ?_
              refine pl_val (want_no rfl) (some 218) rfl (.bool true) (fun _ => by kernel_rfl) ?_
              refine pl_val (want_no rfl) (some 219) rfl (.bool true) (fun _ => by kernel_rfl) ?_
              refine pl_call M (want_on 6 true rfl 219 rfl (by kernel_rfl)) (some 220) rfl 5 #[] (.bool true) (fun _ => by kernel_rfl) (fun w M => c_alive w M.laid) ?_
              intro u13 M
              refine pl_val (want_no rfl) (some 221) rfl (.bool true) (fun _ => by kernel_rfl) ?_
              refine pl_val (want_no rfl) (some 8) rfl (.bool true) (fun _ => by kernel_rfl) ?_
              refine pl_nil ?_
              refine au_then ?_
              refine wp_ret ?_
              exact bodyPost_ret (v := .bool true) (results_tmp1 Tryd.results3 _ _ _ (by kernel_rfl)) (by kernel_rfl) ⟨rfl, below_grown M.old⟩


end Go.Proofs.YtenafinbaanicaaDoor
