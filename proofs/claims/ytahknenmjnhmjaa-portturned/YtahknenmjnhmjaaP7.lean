/- PortTurned: one byte that is another one; the walk. -/
import Derived.Test.YtahknenmjnhmjaaP6a
import Derived.Test.YtahknenmjnhmjaaP5w
namespace Go.Proofs.Ytahknenmjnhmjaa
open Go.RowKit

def tB (A : ByteArray) (k : Nat) (x : Int) : ByteArray := bs ((sb A).set k (xb (bt A k) x))
theorem tB_sb (A : ByteArray) (k : Nat) (x : Int) : sb (tB A k x) = (sb A).set k (xb (bt A k) x) := sb_bs _ fun y hy => by
  rcases List.mem_or_eq_of_mem_set hy with h | h
  · exact sb_nn A y h
  · rw [h]
    exact xb_nn _ _
theorem tB_size (A : ByteArray) (k : Nat) (x : Int) : (tB A k x).size = A.size := by
  unfold tB
  rw [bs_size, List.length_set, sb_length]
theorem vs8_set (l : List Int) (k : Nat) (x : Int) : (vs8 l).set k (.int .u8 x) = vs8 (l.set k x) := by
  unfold vs8
  rw [List.map_set]
theorem SB.put {Z : Obj} {cap : Nat} {l : List Value} (h : SB Z cap l) {i : Nat} (hi : i < l.length) (v : Value) {W : World} {g : Nat} (hz : W.heap[g]? = some Z) : ∃ Z', (W.setCell ⟨g, i, none⟩ v).heap[g]? = some Z' ∧ SB Z' cap (l.set i v) := by
  obtain ⟨cs, T, fr, rfl, h1, h2, h3, h4⟩ := h.ex
  refine ⟨.cells (cs.setIfInBounds i v) T fr, ?_, ⟨_, T, fr, rfl, by simpa using h1, by simpa using h2, fun j hj => ?_, h4⟩⟩
  · simp [World.setCell, Array.getElem?_modify, hz]
  · rw [List.length_set] at hj
    rw [Array.getElem?_setIfInBounds, List.getElem?_set]
    by_cases e : i = j
    · subst e
      rw [if_pos rfl, if_pos rfl, if_pos (by omega), if_pos hi]
    · rw [if_neg e, if_neg e, h3 j hj]
theorem SB.free {Z : Obj} {cap : Nat} {l : List Value} (h : SB Z cap l) {i : Nat} (hi : i < l.length) {W : World} {g : Nat} (hz : W.heap[g]? = some Z) : W.frozen? ⟨g, i, none⟩ = false := by
  obtain ⟨cs, T, fr, rfl, h1, h2, h3, h4⟩ := h.ex
  unfold World.frozen?
  rw [hz]
  exact h4 i (by omega)
section
variable {P : Program} {ops : Array Oper} {o : Oper} {rest : List Oper} {a : Act} {w : World} {c : Ctx} {L : List Blk} {Q : Exit → Act → World → Prop}
theorem pl_putS (M : Mem c L w) (hw : Region.wanted o (yielded ops a.tmps) = true) (hd : o.dst = none) (ty : TypeId) (x y : Operand) (ho : o.op = .store ty x y) (i g off : Nat) (hx : a.eval x = .pointer (some ⟨g, off, none⟩)) (Z : Obj) (hi : L[i]? = some ⟨g, Z⟩) (cap : Nat) (l : List Value) (hs : SB Z cap l) (hk : off < l.length) (v : Value)
    (hy : a.eval y = v) (hz : (P.info? ty).map (·.size) = some 1) (h1 : v.oneCell' = true) (hc : v.cells = #[v])
    (h : ∀ Z' w', SB Z' cap (l.set off v) → Mem c (L.set i ⟨g, Z'⟩) w' → PL P ops Q rest a w') : PL P ops Q (o :: rest) a w := by
  have R := M.get i hi
  obtain ⟨Z', h2, h3⟩ := hs.put hk v R
  have h4 := h Z' (w.setCell ⟨g, off, none⟩ v) h3 (M.put i ⟨g, _⟩ hi _ (grown_setCell w g off v) h2)
  have hcell : w.cell? ⟨g, off, none⟩ = some l[off] := hs.cell R (List.getElem?_eq_getElem hk)
  have hrun : (Instr.storeAt ty (.pointer (some ⟨g, off, none⟩)) v).run P w = .ok () (w.setCell ⟨g, off, none⟩ v) := by
    cases hq : P.info? ty with
    | none => simp [hq] at hz
    | some t =>
      have ht : t.size = 1 := by simpa [hq] using hz
      have hcc := run_storeCells_cells (P := P) g off [v] 0 w (by intro j hj; simp at hj; subst hj; simp [hcell]) (by intro j hj; simp at hj; subst hj; simpa using hs.free hk R) (by simpa using h1)
      simp only [Nat.add_zero, World.setCells] at hcc
      simp [Instr.storeAt, Instr.sureAddr, storeVar, sizeOf, typeInfo, hq, ht, hc, hcc]
  refine ⟨Go.BigFrame.wpList_want hw fun K hK => ?_⟩
  unfold Oper.wp execOp
  simp only [ho, hx, hy, Sem.run_bind, hrun, Result.andThen_ok, Sem.run_pure]
  show K (a.put o.dst undef) _
  rw [hd]
  exact hK _ _ h4.out
end
theorem run_remN {P : Program} {a : Act} {o : Oper} (t rt : TypeId) (x y : Operand) (ho : o.op = .binOp .rem t x y rt) (m d : Nat) (hx : a.eval x = .int .i64 (m : Int)) (hy : a.eval y = .int .i64 (d : Int)) (hd : 0 < d) (w : World) :
    (execOp a.eval o).run P w = .ok (.value (.int .i64 ((m % d : Nat) : Int))) w := by
  have h0 : ¬ d = 0 := by omega
  have e : Int.tmod (m : Int) (d : Int) = (m : Int) % (d : Int) := rfl
  unfold execOp
  simp [ho, hx, hy, eqGuard, binOp, Op.intDiv, h0, e]
theorem tB_get (A : ByteArray) (k : Nat) (x : Int) (j : Nat) (h : j < A.size) : (vs8 ((sb A).set k (xb (bt A k) x)))[j]? = some (.int .u8 (bt (tB A k x) j)) := by
  rw [← tB_sb]
  exact vs8_sb _ j (by rw [tB_size]; exact h)
theorem bt_tB (A : ByteArray) (k : Nat) (x : Int) (j : Nat) (h : j < A.size) : bt (tB A k x) j = if j = k then xb (bt A k) x else bt A j := by
  have h1 := sb_get (tB A k x) j (by rw [tB_size]; exact h)
  rw [tB_sb, List.getElem?_set] at h1
  by_cases e : k = j
  · subst e
    rw [if_pos rfl, if_pos (by rw [sb_length]; exact h)] at h1
    rw [if_pos rfl]
    exact (Option.some.inj h1).symm
  · rw [if_neg e, sb_get A j h] at h1
    rw [if_neg (fun e2 => e e2.symm)]
    exact (Option.some.inj h1).symm
/-- How much a byte that is another one adds. -/
def dlt (A : ByteArray) (k : Nat) (x : Int) : Int := if k % 2 = 0 then 256 * (xb (bt A k) x - bt A k) else xb (bt A k) x - bt A k
theorem tt_tB (A : ByteArray) (k : Nat) (x : Int) (j : Nat) (h : j ≤ A.size) : tt (tB A k x) j = tt A j + (if k < j then dlt A k x else 0) := by
  induction j with
  | zero =>
    rw [if_neg (by omega)]
    rfl
  | succ j ih =>
    show tt (tB A k x) j + (if j % 2 = 0 then 256 * bt (tB A k x) j else bt (tB A k x) j) = (tt A j + (if j % 2 = 0 then 256 * bt A j else bt A j)) + _
    rw [ih (by omega), bt_tB A k x j (by omega)]
    by_cases e : j = k
    · subst e
      rw [if_neg (Nat.lt_irrefl j), if_pos rfl, if_pos (Nat.lt_succ_self j)]
      unfold dlt
      split <;> omega
    · rw [if_neg e]
      by_cases e2 : k < j
      · rw [if_pos e2, if_pos (show k < j + 1 by omega)]
        omega
      · rw [if_neg e2, if_neg (show ¬ k < j + 1 by omega)]
        omega
theorem tot_tB (A : ByteArray) (k : Nat) (x : Int) (h : k < A.size) : tot (tB A k x) = tot A + dlt A k x := by
  unfold tot
  rw [tB_size, tt_tB A k x _ (Nat.le_refl _), if_pos h]
theorem xb_ne (y x : Int) (hy : 0 ≤ y ∧ y < 256) (hx : 0 ≤ x ∧ x < 256) (h : x ≠ 0) : xb y x ≠ y := by
  obtain ⟨m, rfl⟩ := Int.eq_ofNat_of_zero_le hy.1
  obtain ⟨n, rfl⟩ := Int.eq_ofNat_of_zero_le hx.1
  intro e
  have hm : m < 256 := by omega
  have hn : n < 256 := by omega
  have e1 : BitVec.ofInt 8 (m : Int) = BitVec.ofNat 8 m := rfl
  have e2 : BitVec.ofInt 8 (n : Int) = BitVec.ofNat 8 n := rfl
  unfold xb at e
  rw [e1, e2, BitVec.toNat_xor, BitVec.toNat_ofNat, BitVec.toNat_ofNat, Nat.mod_eq_of_lt (by omega), Nat.mod_eq_of_lt (by omega)] at e
  have h3 : m ^^^ n < 2 ^ 8 := Nat.xor_lt_two_pow (by omega) (by omega)
  rw [IntKind.wrap_u8] at e
  have h4 : m ^^^ n = m := by omega
  have h5 : m ^^^ (m ^^^ n) = m ^^^ m := by rw [h4]
  rw [← Nat.xor_assoc, Nat.xor_self, Nat.zero_xor] at h5
  exact h (by omega)
theorem dlt_ne (A : ByteArray) (k : Nat) (x : Int) (hx : 0 ≤ x ∧ x < 256) (h : x ≠ 0) : dlt A k x ≠ 0 ∧ -65280 ≤ dlt A k x ∧ dlt A k x ≤ 65280 := by
  have h1 := bt_nn A k
  have h2 := xb_nn (bt A k) x
  have h3 := xb_ne (bt A k) x h1 hx h
  unfold dlt
  split <;> omega
theorem Fs_ne (T e : Int) (h : Fs T = 65535) (h1 : 0 ≤ T + e) (he : e ≠ 0) (e0 : -65280 ≤ e) (e1 : e ≤ 65280) : Fs (T + e) ≠ 65535 := by
  unfold Fs at h ⊢
  split at h
  · cases h
  · split
    · decide
    · omega
theorem sum_tB (Q A : ByteArray) (hQ : Q.size % 2 = 0) (k : Nat) (hk : k < A.size) (x : Int) (hx : 0 ≤ x ∧ x < 256) (h : x ≠ 0) (hs : sumS (Q ++ A) = 0) : sumS (Q ++ tB A k x) ≠ 0 := by
  obtain ⟨d0, d1, d2⟩ := dlt_ne A k x hx h
  have e : tot (Q ++ tB A k x) = tot (Q ++ A) + dlt A k x := by
    rw [tot_app Q _ hQ, tot_app Q _ hQ, tot_tB A k x hk]
    omega
  have n1 := tot_nn (Q ++ tB A k x)
  have hs' : 65535 - Fs (tot (Q ++ A)) = 0 := hs
  have r := Fs_ne (tot (Q ++ A)) (dlt A k x) (by omega) (by omega) d0 d1 d2
  show 65535 - Fs (tot (Q ++ tB A k x)) ≠ 0
  rw [e]
  omega
theorem sO_tB (v0 : Bool) (h0 l0 : Int) (v1 : Bool) (h1 l1 p : Int) (A : ByteArray) (k : Nat) (hk : k < A.size) (x : Int) (hx : 0 ≤ x ∧ x < 256) (h : x ≠ 0) (hs : sO v0 h0 l0 v1 h1 l1 p A = 0) : sO v0 h0 l0 v1 h1 l1 p (tB A k x) ≠ 0 := by
  unfold sO at hs ⊢
  rw [tB_size]
  by_cases hp : p = 6 ∨ p = 17 ∨ p = 58
  · rw [if_pos hp] at hs ⊢
    exact sum_tB _ A (psB_even ..) k hk x hx h hs
  · rw [if_neg hp] at hs ⊢
    have r := sum_tB ⟨#[]⟩ A rfl k hk x hx h (by rw [nil_app]; exact hs)
    rw [nil_app] at r
    exact r
/-- One byte of TCP that is another one. -/
theorem t_turn (v0 : Bool) (h0 l0 : Int) (v1 : Bool) (h1 l1 f g q : Int) (d : ByteArray) (h : pkE v0 h0 l0 v1 h1 l1 (tcA f g q) (tcB d) = 0) (O : ByteArray) (hO : O = pkO v0 h0 l0 v1 h1 l1 6 (tcA f g q) (tcB d)) (k : Nat) (hk : k < O.size) (x : Int) (hx : 0 ≤ x ∧ x < 256) (hn : x ≠ 0) :
    ¬ dE v0 h0 l0 v1 h1 l1 6 (tB O k x) = 0 := by
  have hm := my_pk v0 h0 l0 v1 h1 l1 6 _ _ h
  have hS := pk_sum v0 h0 l0 v1 h1 l1 6 (tcA f g q) (tcB d) (by rw [tcA_size])
  rw [← hO] at hm hS
  have hT := sO_tB v0 h0 l0 v1 h1 l1 6 O k hk x hx hn hS
  unfold dE fO fT fS
  rw [tB_size, if_pos hm, if_neg (by decide), if_pos rfl, if_neg hT]
  split
  · decide
  · split
    · decide
    · split <;> decide
theorem u_gone (v0 : Bool) (h0 l0 : Int) (v1 : Bool) (h1 l1 f g n : Int) (d : ByteArray) (h : pkE v0 h0 l0 v1 h1 l1 (udA f g n) d = 0) (O : ByteArray) (hO : O = pkO v0 h0 l0 v1 h1 l1 17 (udA f g n) d) (k : Nat) (hk : k < O.size) (x : Int) (hx : 0 ≤ x ∧ x < 256) (hn : x ≠ 0)
    (hE : dE v0 h0 l0 v1 h1 l1 17 (tB O k x) = 0) : v0 = false ∧ bt (tB O k x) 6 = 0 ∧ bt (tB O k x) 7 = 0 := by
  have hm := my_pk v0 h0 l0 v1 h1 l1 17 _ _ h
  have hS := pk_sum v0 h0 l0 v1 h1 l1 17 (udA f g n) d (by rw [udA_size])
  rw [← hO] at hm hS
  have hT := sO_tB v0 h0 l0 v1 h1 l1 17 O k hk x hx hn hS
  unfold dE fO fU fS at hE
  rw [tB_size, if_pos hm, if_pos rfl, if_neg hT] at hE
  split at hE
  · cases hE
  · split at hE
    · split at hE
      · cases hE
      · rename_i hv
        split at hE
        · rename_i hp
          have b0 := bt_nn (tB O k x) 6
          have b1 := bt_nn (tB O k x) 7
          have hp' : 256 * bt (tB O k x) 6 + bt (tB O k x) 7 = 0 := hp
          refine ⟨by cases v0 <;> simp_all, by omega, by omega⟩
        · cases hE
    · cases hE
theorem u_fits {v0 : Bool} {h0 l0 : Int} {v1 : Bool} {h1 l1 f g q n : Int} {d : ByteArray} (h : pkE v0 h0 l0 v1 h1 l1 (tcA f g q) (tcB d) = 0) : pkE v0 h0 l0 v1 h1 l1 (udA f g n) d = 0 := by
  have h2 : my v0 h0 l0 v1 h1 l1 ((pkD (tcA f g q) (tcB d)).size : Int) = 0 := h
  obtain ⟨e, hb, h3, h4⟩ := my_ok h2
  rw [pkD_size, tcA_size, tcB_size] at hb
  unfold pkE my
  rw [h3, h4, if_pos (by rw [decide_eq_true e.symm]; rfl), if_neg (by rw [pkD_size, udA_size]; omega)]
set_option maxRecDepth 100000 in
set_option maxHeartbeats 4000000 in
set_option linter.unusedSimpArgs false in
theorem c_turnG (v0 : Bool) (h0 l0 f : Int) (v1 : Bool) (h1 l1 g : Int) (d : ByteArray) (at_ by_ : Int) (ha : 0 ≤ at_ ∧ at_ < 65536) (hb : 0 ≤ by_ ∧ by_ < 256) (O U : ByteArray) (hO : pkO v0 h0 l0 v1 h1 l1 6 (tcA f g 16) (tcB d) = O) (hU : pkO v0 h0 l0 v1 h1 l1 17 (udA f g (d.size : Int)) d = U) (K m : Nat) (hK : at_.toNat % O.size = K) (hm : at_.toNat % U.size = m) (w : World) (hL : Laid w)  :
    Calls Try.prog 6 #[.agg (av 4 (ls [.bool (v0), .int .u64 h0, .int .u64 l0, .int .u16 f])), .agg (av 4 (ls [.bool (v1), .int .u64 h1, .int .u64 l1, .int .u16 g])), .string d, .int .u16 at_, .int .u8 by_] w fun r w' => r = .returned (.bool true) ∧ Below w.heap.size w w' := by
  go_enter Try.func6, Try.ntmps6
  have M := Mem.start hL
  refine wp_seq ?_
  refine rg_lit ?_
  refine pl_new M (want_no rfl) (some 5) rfl (.cells (av 4 (ls [.bool (v0), .int .u64 h0, .int .u64 l0, .int .u16 f])) 40) (fun _ => by kernel_rfl) ?_
  intro g1 u1 M
  replace M : Mem ⟨w, []⟩ [⟨g1, .cells (av 4 (ls [.bool (v0), .int .u64 h0, .int .u64 l0, .int .u16 f])) 40⟩] u1 := M
  refine pl_new M (want_no rfl) (some 6) rfl (.cells (av 4 (ls [.bool (v1), .int .u64 h1, .int .u64 l1, .int .u16 g])) 40) (fun _ => by kernel_rfl) ?_
  intro g2 u2 M
  replace M : Mem ⟨w, []⟩ [⟨g1, .cells (av 4 (ls [.bool (v0), .int .u64 h0, .int .u64 l0, .int .u16 f])) 40⟩, ⟨g2, .cells (av 4 (ls [.bool (v1), .int .u64 h1, .int .u64 l1, .int .u16 g])) 40⟩] u2 := M
  refine pl_val (want_no rfl) (some 10) rfl (.bool false) (fun _ => by kernel_rfl) ?_
  refine pl_nil ?_
  refine au_then ?_
  refine wp_seq ?_
  refine wp_seq ?_
  refine rg_lit ?_
  refine pl_val (want_no rfl) (some 24) rfl (.string d) (fun _ => by kernel_rfl) ?_
  refine pl_val (want_no rfl) (some 25) rfl (.int .i64 (d.size : Int)) (fun _ => by kernel_rfl) ?_
  by_cases c0 : 4096 < (d.size : Int)
  · skip
    refine pl_val (want_no rfl) (some 26) rfl (.bool true) (fun w => Eq.trans (b := .ok (.value (.bool (decide (4096 < (d.size : Int))))) w) (by kernel_rfl) (by rw [decide_eq_true (c0)])) ?_
    refine pl_val (want_no rfl) (some 27) rfl (.bool true) (fun _ => by kernel_rfl) ?_
    refine pl_skip (want_off 3 false rfl 27 rfl (by kernel_rfl)) (some 28) rfl ?_
    refine pl_skip (want_off 3 false rfl 27 rfl (by kernel_rfl)) (some 29) rfl ?_
    refine pl_val (want_no rfl) (some 30) rfl (.bool true) (fun _ => by kernel_rfl) ?_
    refine pl_nil ?_
    refine au_then ?_
    refine wp_cond_true (by kernel_rfl) ?_
    refine wp_seq ?_
    refine rg_lit ?_
    refine pl_call M (want_no rfl) (some 31) rfl 7 #[] (.bool true) (fun _ => by kernel_rfl) (fun w M => c_works w M.laid) ?_
    intro u3 M
    refine pl_val (want_no rfl) (some 10) rfl (.bool true) (fun _ => by kernel_rfl) ?_
    refine pl_nil ?_
    refine au_then ?_
    refine wp_ret ?_
    refine au_then_ret ?_
    exact bodyPost_ret (v := .bool true) (results_tmp1 Try.results6 _ _ _ (by kernel_rfl)) (by kernel_rfl) ⟨rfl, below_grown M.old⟩
  · skip
    refine pl_val (want_no rfl) (some 26) rfl (.bool false) (fun w => Eq.trans (b := .ok (.value (.bool (decide (4096 < (d.size : Int))))) w) (by kernel_rfl) (by rw [decide_eq_false (c0)])) ?_
    refine pl_val (want_no rfl) (some 27) rfl (.bool false) (fun _ => by kernel_rfl) ?_
    refine pl_val (want_on 3 false rfl 27 rfl (by kernel_rfl)) (some 28) rfl (.int .u8 by_) (fun _ => by kernel_rfl) ?_
    by_cases c1 : by_ = 0
    · skip
      refine pl_val (want_on 3 false rfl 27 rfl (by kernel_rfl)) (some 29) rfl (.bool true) (fun w => Eq.trans (b := .ok (.value (.bool (decide (by_ = 0)))) w) (by kernel_rfl) (by rw [decide_eq_true (c1)])) ?_
      refine pl_val (want_no rfl) (some 30) rfl (.bool true) (fun _ => by kernel_rfl) ?_
      refine pl_nil ?_
      refine au_then ?_
      refine wp_cond_true (by kernel_rfl) ?_
      refine wp_seq ?_
      refine rg_lit ?_
      refine pl_call M (want_no rfl) (some 31) rfl 7 #[] (.bool true) (fun _ => by kernel_rfl) (fun w M => c_works w M.laid) ?_
      intro u3 M
      refine pl_val (want_no rfl) (some 10) rfl (.bool true) (fun _ => by kernel_rfl) ?_
      refine pl_nil ?_
      refine au_then ?_
      refine wp_ret ?_
      refine au_then_ret ?_
      exact bodyPost_ret (v := .bool true) (results_tmp1 Try.results6 _ _ _ (by kernel_rfl)) (by kernel_rfl) ⟨rfl, below_grown M.old⟩
    · skip
      refine pl_val (want_on 3 false rfl 27 rfl (by kernel_rfl)) (some 29) rfl (.bool false) (fun w => Eq.trans (b := .ok (.value (.bool (decide (by_ = 0)))) w) (by kernel_rfl) (by rw [decide_eq_false (c1)])) ?_
      refine pl_val (want_no rfl) (some 30) rfl (.bool false) (fun _ => by kernel_rfl) ?_
      refine pl_nil ?_
      refine au_then ?_
      refine wp_cond_false (by kernel_rfl) ?_
      refine wp_skip ?_
      refine au_then ?_
      refine wp_seq ?_
      refine rg_lit ?_
      refine pl_load M (want_no rfl) (some 33) rfl 40 _ rfl 0 g1 0 (by kernel_rfl) 4 40 (ls [.bool (v0), .int .u64 h0, .int .u64 l0, .int .u16 f]) rfl 4 (ls [.bool (v0), .int .u64 h0, .int .u64 l0, .int .u16 f]) (fun j _ => by rw [Nat.zero_add]) (by decide) _ Try.underlying40 rfl inz40 ?_
      refine pl_load M (want_no rfl) (some 34) rfl 40 _ rfl 1 g2 0 (by kernel_rfl) 4 40 (ls [.bool (v1), .int .u64 h1, .int .u64 l1, .int .u16 g]) rfl 4 (ls [.bool (v1), .int .u64 h1, .int .u64 l1, .int .u16 g]) (fun j _ => by rw [Nat.zero_add]) (by decide) _ Try.underlying40 rfl inz40 ?_
      refine pl_val (want_no rfl) (some 35) rfl (.string d) (fun _ => by kernel_rfl) ?_
      by_cases c2 : (pkE v0 h0 l0 v1 h1 l1 (tcA f g 16) (tcB d)) = 0
      · skip
        refine pl_call M (want_no rfl) (some 36) rfl 16 #[.agg (av 4 (ls [.bool (v0), .int .u64 h0, .int .u64 l0, .int .u16 f])), .agg (av 4 (ls [.bool (v1), .int .u64 h1, .int .u64 l1, .int .u16 g])), .int .u8 16, .string d] (.tuple #[.agg (av 9 (ls [.bool (v0), .int .u64 h0, .int .u64 l0, .bool (v1), .int .u64 h1, .int .u64 l1, .int .u8 6, .int .u8 64, .string O])), .int .i64 0]) (fun _ => by kernel_rfl) (fun w M => call_val (c_Tcp v0 h0 l0 f v1 h1 l1 g 16 d (by omega) (by decide) w M.laid) (by simp only [c2, zI, zB, zS, if_true, hO])) ?_
        intro u3 M
        refine pl_val (want_no rfl) (some 32) rfl (.tuple #[.agg (av 9 (ls [.bool (v0), .int .u64 h0, .int .u64 l0, .bool (v1), .int .u64 h1, .int .u64 l1, .int .u8 6, .int .u8 64, .string O])), .int .i64 0]) (fun _ => by kernel_rfl) ?_
        refine pl_val (want_no rfl) (some 37) rfl (.agg (av 9 (ls [.bool (v0), .int .u64 h0, .int .u64 l0, .bool (v1), .int .u64 h1, .int .u64 l1, .int .u8 6, .int .u8 64, .string O]))) (fun _ => by kernel_rfl) ?_
        refine pl_val (want_no rfl) (some 38) rfl (.int .i64 0) (fun _ => by kernel_rfl) ?_
        refine pl_new M (want_no rfl) (some 11) rfl (.cells (av 9 (ls [.bool false, .int .u64 0, .int .u64 0, .bool false, .int .u64 0, .int .u64 0, .int .u8 0, .int .u8 0, .string ⟨#[]⟩])) 26) (fun _ => by kernel_rfl) ?_
        intro g3 u4 M
        replace M : Mem ⟨w, []⟩ [⟨g1, .cells (av 4 (ls [.bool (v0), .int .u64 h0, .int .u64 l0, .int .u16 f])) 40⟩, ⟨g2, .cells (av 4 (ls [.bool (v1), .int .u64 h1, .int .u64 l1, .int .u16 g])) 40⟩, ⟨g3, .cells (av 9 (ls [.bool false, .int .u64 0, .int .u64 0, .bool false, .int .u64 0, .int .u64 0, .int .u8 0, .int .u8 0, .string ⟨#[]⟩])) 26⟩] u4 := M
        refine pl_put M (want_no rfl) rfl 26 _ _ rfl 2 g3 0 (by kernel_rfl) 9 26 (ls [.bool false, .int .u64 0, .int .u64 0, .bool false, .int .u64 0, .int .u64 0, .int .u8 0, .int .u8 0, .string ⟨#[]⟩]) rfl 9 (ls [.bool (v0), .int .u64 h0, .int .u64 l0, .bool (v1), .int .u64 h1, .int .u64 l1, .int .u8 6, .int .u8 64, .string O]) (ls [.bool (v0), .int .u64 h0, .int .u64 l0, .bool (v1), .int .u64 h1, .int .u64 l1, .int .u8 6, .int .u8 64, .string O]) (by kernel_rfl) inz26 (by decide) (one_ls _ rfl) (fun j hj => by rw [if_pos (by omega), Nat.sub_zero]) ?_
        intro u5 M
        replace M : Mem ⟨w, []⟩ [⟨g1, .cells (av 4 (ls [.bool (v0), .int .u64 h0, .int .u64 l0, .int .u16 f])) 40⟩, ⟨g2, .cells (av 4 (ls [.bool (v1), .int .u64 h1, .int .u64 l1, .int .u16 g])) 40⟩, ⟨g3, .cells (av 9 (ls [.bool (v0), .int .u64 h0, .int .u64 l0, .bool (v1), .int .u64 h1, .int .u64 l1, .int .u8 6, .int .u8 64, .string O])) 26⟩] u5 := M
        refine pl_val (want_no rfl) (some 12) rfl (.int .i64 0) (fun _ => by kernel_rfl) ?_
        refine pl_nil ?_
        have zO : O.size = 20 + d.size := by rw [← hO, pkO_size, tcA_size, tcB_size]; omega
        have zU : U.size = 8 + d.size := by rw [← hU, pkO_size, udA_size]
        have hKl : K < O.size := by rw [← hK]; exact Nat.mod_lt _ (by omega)
        have hml : m < U.size := by rw [← hm]; exact Nat.mod_lt _ (by omega)
        refine au_then ?_
        refine wp_seq ?_
        refine wp_seq ?_
        refine rg_lit ?_
        refine pl_val (want_no rfl) (some 39) rfl (.int .i64 0) (fun _ => by kernel_rfl) ?_
        refine pl_val (want_no rfl) (some 40) rfl (.bool false) (fun _ => by kernel_rfl) ?_
        refine pl_nil ?_
        refine au_then ?_
        refine wp_cond_false (by kernel_rfl) ?_
        refine wp_skip ?_
        refine au_then ?_
        refine wp_seq ?_
        refine rg_lit ?_
        refine pl_val (want_no rfl) (some 42) rfl (.pointer (some ⟨g3, 8, none⟩)) (fun _ => by kernel_rfl) ?_
        refine pl_cell M (want_no rfl) (some 43) rfl 9 _ rfl g3 8 (by kernel_rfl) (.string O) (fun _ => by kernel_rfl) (fun w M => M.cell 2 rfl (by decide) rfl) ?_
        refine pl_conv M (want_no rfl) (some 44) rfl _ rfl O (by kernel_rfl) ?_
        intro g4 cap1 Z1 u6 hZ1 M
        replace M : Mem ⟨w, []⟩ [⟨g1, .cells (av 4 (ls [.bool (v0), .int .u64 h0, .int .u64 l0, .int .u16 f])) 40⟩, ⟨g2, .cells (av 4 (ls [.bool (v1), .int .u64 h1, .int .u64 l1, .int .u16 g])) 40⟩, ⟨g3, .cells (av 9 (ls [.bool (v0), .int .u64 h0, .int .u64 l0, .bool (v1), .int .u64 h1, .int .u64 l1, .int .u8 6, .int .u8 64, .string O])) 26⟩, ⟨g4, Z1⟩] u6 := M
        refine pl_val (want_no rfl) (some 13) rfl (.slice (some ⟨g4, 0, none⟩) O.size cap1) (fun _ => by kernel_rfl) ?_
        refine pl_nil ?_
        refine au_then ?_
        refine wp_seq ?_
        refine wp_seq ?_
        refine rg_lit ?_
        refine pl_val (want_no rfl) (some 45) rfl (.slice (some ⟨g4, 0, none⟩) O.size cap1) (fun _ => by kernel_rfl) ?_
        refine pl_val (want_no rfl) (some 46) rfl (.int .i64 ((O.size : Nat) : Int)) (fun _ => by kernel_rfl) ?_
        refine pl_val (want_no rfl) (some 47) rfl (.bool false) (fun w => Eq.trans (b := .ok (.value (.bool (decide (((O.size : Nat) : Int) = 0)))) w) (by kernel_rfl) (by rw [decide_eq_false (by omega)])) ?_
        refine pl_nil ?_
        refine au_then ?_
        refine wp_cond_false (by kernel_rfl) ?_
        refine wp_skip ?_
        refine au_then ?_
        refine wp_seq ?_
        refine rg_lit ?_
        refine pl_val (want_no rfl) (some 48) rfl (.int .u16 at_) (fun _ => by kernel_rfl) ?_
        refine pl_val (want_no rfl) (some 49) rfl (.int .i64 ((at_.toNat : Nat) : Int)) (fun w => Eq.trans (b := .ok (.value (.int .i64 (cv .i64 at_))) w) (by kernel_rfl) (by rw [cv_i64 (by omega) (by omega)]; congr 3; omega)) ?_
        refine pl_val (want_no rfl) (some 50) rfl (.slice (some ⟨g4, 0, none⟩) O.size cap1) (fun _ => by kernel_rfl) ?_
        refine pl_val (want_no rfl) (some 51) rfl (.int .i64 ((O.size : Nat) : Int)) (fun _ => by kernel_rfl) ?_
        refine pl_val (want_no rfl) (some 52) rfl (.int .i64 (K : Int)) (fun w => Eq.trans (run_remN 3 3 _ _ rfl at_.toNat O.size (by kernel_rfl) (by kernel_rfl) (by omega) w) (by rw [hK])) ?_
        refine pl_val (want_no rfl) (some 14) rfl (.int .i64 (K : Int)) (fun _ => by kernel_rfl) ?_
        refine pl_nil ?_
        refine au_then ?_
        refine wp_seq ?_
        refine rg_lit ?_
        refine pl_val (want_no rfl) (some 53) rfl (.slice (some ⟨g4, 0, none⟩) O.size cap1) (fun _ => by kernel_rfl) ?_
        refine pl_val (want_no rfl) (some 54) rfl (.int .i64 (K : Int)) (fun _ => by kernel_rfl) ?_
        refine pl_val (want_no rfl) (some 55) rfl (.slice (some ⟨g4, 0, none⟩) O.size cap1) (fun _ => by kernel_rfl) ?_
        refine pl_val (want_no rfl) (some 56) rfl (.int .i64 (K : Int)) (fun _ => by kernel_rfl) ?_
        refine pl_val (want_no rfl) (some 57) rfl (.pointer (some ⟨g4, K, none⟩)) (run_ix0 47 5 Try.underlying47 inz5 _ _ rfl g4 O.size cap1 (by kernel_rfl) .i64 K (by kernel_rfl) (hKl)) ?_
        refine pl_cell M (want_no rfl) (some 58) rfl 5 _ rfl g4 K (by kernel_rfl) (.int .u8 (bt O K)) (fun _ => by kernel_rfl) (fun w M => hZ1.cell (M.get 3 rfl) (vs8_sb _ _ (hKl))) ?_
        refine pl_val (want_no rfl) (some 59) rfl (.int .u8 by_) (fun _ => by kernel_rfl) ?_
        refine pl_val (want_no rfl) (some 60) rfl (.int .u8 (xb (bt O K) by_)) (fun _ => by kernel_rfl) ?_
        refine pl_val (want_no rfl) (some 61) rfl (.pointer (some ⟨g4, K, none⟩)) (run_ix0 47 5 Try.underlying47 inz5 _ _ rfl g4 O.size cap1 (by kernel_rfl) .i64 K (by kernel_rfl) (hKl)) ?_
        refine pl_putS M (want_no rfl) rfl 5 _ _ rfl 3 g4 K (by kernel_rfl) _ rfl cap1 _ hZ1 (by rw [vs8_length, sb_length]; exact hKl) (.int .u8 (xb (bt O K) by_)) (by kernel_rfl) inz5 rfl rfl ?_
        intro ZA u7 hZA M
        rw [vs8_set] at hZA
        replace M : Mem ⟨w, []⟩ [⟨g1, .cells (av 4 (ls [.bool (v0), .int .u64 h0, .int .u64 l0, .int .u16 f])) 40⟩, ⟨g2, .cells (av 4 (ls [.bool (v1), .int .u64 h1, .int .u64 l1, .int .u16 g])) 40⟩, ⟨g3, .cells (av 9 (ls [.bool (v0), .int .u64 h0, .int .u64 l0, .bool (v1), .int .u64 h1, .int .u64 l1, .int .u8 6, .int .u8 64, .string O])) 26⟩, ⟨g4, ZA⟩] u7 := M
        refine pl_nil ?_
        refine au_then ?_
        refine wp_seq ?_
        refine rg_lit ?_
        refine pl_val (want_no rfl) (some 62) rfl (.slice (some ⟨g4, 0, none⟩) O.size cap1) (fun _ => by kernel_rfl) ?_
        refine pl_back M (want_no rfl) (some 63) rfl _ rfl 3 g4 O.size cap1 (by kernel_rfl) _ rfl ((sb O).set K (xb (bt O K) by_)) cap1 hZA (by rw [List.length_set, sb_length]) (fun y hy => by rw [← tB_sb] at hy; exact sb_nn _ y hy) ?_
        refine pl_val (want_no rfl) (some 64) rfl (.pointer (some ⟨g3, 8, none⟩)) (fun _ => by kernel_rfl) ?_
        refine pl_put1 M (want_no rfl) rfl 9 _ _ rfl 2 g3 8 (by kernel_rfl) 9 26 (ls [.bool (v0), .int .u64 h0, .int .u64 l0, .bool (v1), .int .u64 h1, .int .u64 l1, .int .u8 6, .int .u8 64, .string O]) rfl (.string (tB O K by_)) (ls [.bool (v0), .int .u64 h0, .int .u64 l0, .bool (v1), .int .u64 h1, .int .u64 l1, .int .u8 6, .int .u8 64, .string (tB O K by_)]) (by kernel_rfl) inz9 (by decide) rfl rfl (put_ls _ 8 _ _ rfl) ?_
        intro u8 M
        replace M : Mem ⟨w, []⟩ [⟨g1, .cells (av 4 (ls [.bool (v0), .int .u64 h0, .int .u64 l0, .int .u16 f])) 40⟩, ⟨g2, .cells (av 4 (ls [.bool (v1), .int .u64 h1, .int .u64 l1, .int .u16 g])) 40⟩, ⟨g3, .cells (av 9 (ls [.bool (v0), .int .u64 h0, .int .u64 l0, .bool (v1), .int .u64 h1, .int .u64 l1, .int .u8 6, .int .u8 64, .string (tB O K by_)])) 26⟩, ⟨g4, ZA⟩] u8 := M
        refine pl_nil ?_
        refine au_then ?_
        refine wp_seq ?_
        refine rg_lit ?_
        refine pl_load M (want_no rfl) (some 66) rfl 26 _ rfl 2 g3 0 (by kernel_rfl) 9 26 (ls [.bool (v0), .int .u64 h0, .int .u64 l0, .bool (v1), .int .u64 h1, .int .u64 l1, .int .u8 6, .int .u8 64, .string (tB O K by_)]) rfl 9 (ls [.bool (v0), .int .u64 h0, .int .u64 l0, .bool (v1), .int .u64 h1, .int .u64 l1, .int .u8 6, .int .u8 64, .string (tB O K by_)]) (fun j _ => by rw [Nat.zero_add]) (by decide) _ Try.underlying26 rfl inz26 ?_
        refine pl_call M (want_no rfl) (some 67) rfl 8 #[.agg (av 9 (ls [.bool (v0), .int .u64 h0, .int .u64 l0, .bool (v1), .int .u64 h1, .int .u64 l1, .int .u8 6, .int .u8 64, .string (tB O K by_)]))] (.tuple #[.agg (av 13 (ls [.int .u8 (zI (dE v0 h0 l0 v1 h1 l1 6 (tB O K by_)) 6), .bool (zB (dE v0 h0 l0 v1 h1 l1 6 (tB O K by_)) v0), .int .u64 (zI (dE v0 h0 l0 v1 h1 l1 6 (tB O K by_)) h0), .int .u64 (zI (dE v0 h0 l0 v1 h1 l1 6 (tB O K by_)) l0), .bool (zB (dE v0 h0 l0 v1 h1 l1 6 (tB O K by_)) v1), .int .u64 (zI (dE v0 h0 l0 v1 h1 l1 6 (tB O K by_)) h1), .int .u64 (zI (dE v0 h0 l0 v1 h1 l1 6 (tB O K by_)) l1), .int .u16 (zI (dE v0 h0 l0 v1 h1 l1 6 (tB O K by_)) (hFr 6 (tB O K by_))), .int .u16 (zI (dE v0 h0 l0 v1 h1 l1 6 (tB O K by_)) (hTo 6 (tB O K by_))), .int .u8 (zI (dE v0 h0 l0 v1 h1 l1 6 (tB O K by_)) (hFl 6 (tB O K by_))), .int .u8 (zI (dE v0 h0 l0 v1 h1 l1 6 (tB O K by_)) (hKi 6 (tB O K by_))), .int .u8 (zI (dE v0 h0 l0 v1 h1 l1 6 (tB O K by_)) (hCo 6 (tB O K by_))), .int .i64 (zI (dE v0 h0 l0 v1 h1 l1 6 (tB O K by_)) (hSz 6 (tB O K by_)))])), .int .i64 (dE v0 h0 l0 v1 h1 l1 6 (tB O K by_))]) (fun _ => by kernel_rfl) (fun w M => c_Decode v0 h0 l0 v1 h1 l1 6 64 (tB O K by_) (by rw [tB_size]; omega) (by decide) w M.laid) ?_
        intro u9 M
        refine pl_val (want_no rfl) (some 65) rfl (.tuple #[.agg (av 13 (ls [.int .u8 (zI (dE v0 h0 l0 v1 h1 l1 6 (tB O K by_)) 6), .bool (zB (dE v0 h0 l0 v1 h1 l1 6 (tB O K by_)) v0), .int .u64 (zI (dE v0 h0 l0 v1 h1 l1 6 (tB O K by_)) h0), .int .u64 (zI (dE v0 h0 l0 v1 h1 l1 6 (tB O K by_)) l0), .bool (zB (dE v0 h0 l0 v1 h1 l1 6 (tB O K by_)) v1), .int .u64 (zI (dE v0 h0 l0 v1 h1 l1 6 (tB O K by_)) h1), .int .u64 (zI (dE v0 h0 l0 v1 h1 l1 6 (tB O K by_)) l1), .int .u16 (zI (dE v0 h0 l0 v1 h1 l1 6 (tB O K by_)) (hFr 6 (tB O K by_))), .int .u16 (zI (dE v0 h0 l0 v1 h1 l1 6 (tB O K by_)) (hTo 6 (tB O K by_))), .int .u8 (zI (dE v0 h0 l0 v1 h1 l1 6 (tB O K by_)) (hFl 6 (tB O K by_))), .int .u8 (zI (dE v0 h0 l0 v1 h1 l1 6 (tB O K by_)) (hKi 6 (tB O K by_))), .int .u8 (zI (dE v0 h0 l0 v1 h1 l1 6 (tB O K by_)) (hCo 6 (tB O K by_))), .int .i64 (zI (dE v0 h0 l0 v1 h1 l1 6 (tB O K by_)) (hSz 6 (tB O K by_)))])), .int .i64 (dE v0 h0 l0 v1 h1 l1 6 (tB O K by_))]) (fun _ => by kernel_rfl) ?_
        refine pl_val (want_no rfl) (some 68) rfl (.agg (av 13 (ls [.int .u8 (zI (dE v0 h0 l0 v1 h1 l1 6 (tB O K by_)) 6), .bool (zB (dE v0 h0 l0 v1 h1 l1 6 (tB O K by_)) v0), .int .u64 (zI (dE v0 h0 l0 v1 h1 l1 6 (tB O K by_)) h0), .int .u64 (zI (dE v0 h0 l0 v1 h1 l1 6 (tB O K by_)) l0), .bool (zB (dE v0 h0 l0 v1 h1 l1 6 (tB O K by_)) v1), .int .u64 (zI (dE v0 h0 l0 v1 h1 l1 6 (tB O K by_)) h1), .int .u64 (zI (dE v0 h0 l0 v1 h1 l1 6 (tB O K by_)) l1), .int .u16 (zI (dE v0 h0 l0 v1 h1 l1 6 (tB O K by_)) (hFr 6 (tB O K by_))), .int .u16 (zI (dE v0 h0 l0 v1 h1 l1 6 (tB O K by_)) (hTo 6 (tB O K by_))), .int .u8 (zI (dE v0 h0 l0 v1 h1 l1 6 (tB O K by_)) (hFl 6 (tB O K by_))), .int .u8 (zI (dE v0 h0 l0 v1 h1 l1 6 (tB O K by_)) (hKi 6 (tB O K by_))), .int .u8 (zI (dE v0 h0 l0 v1 h1 l1 6 (tB O K by_)) (hCo 6 (tB O K by_))), .int .i64 (zI (dE v0 h0 l0 v1 h1 l1 6 (tB O K by_)) (hSz 6 (tB O K by_)))]))) (fun _ => by kernel_rfl) ?_
        refine pl_val (want_no rfl) (some 69) rfl (.int .i64 (dE v0 h0 l0 v1 h1 l1 6 (tB O K by_))) (fun _ => by kernel_rfl) ?_
        refine pl_new M (want_no rfl) (some 15) rfl (.cells (av 13 (ls [.int .u8 0, .bool false, .int .u64 0, .int .u64 0, .bool false, .int .u64 0, .int .u64 0, .int .u16 0, .int .u16 0, .int .u8 0, .int .u8 0, .int .u8 0, .int .i64 0])) 32) (fun _ => by kernel_rfl) ?_
        intro g5 u10 M
        replace M : Mem ⟨w, []⟩ [⟨g1, .cells (av 4 (ls [.bool (v0), .int .u64 h0, .int .u64 l0, .int .u16 f])) 40⟩, ⟨g2, .cells (av 4 (ls [.bool (v1), .int .u64 h1, .int .u64 l1, .int .u16 g])) 40⟩, ⟨g3, .cells (av 9 (ls [.bool (v0), .int .u64 h0, .int .u64 l0, .bool (v1), .int .u64 h1, .int .u64 l1, .int .u8 6, .int .u8 64, .string (tB O K by_)])) 26⟩, ⟨g4, ZA⟩, ⟨g5, .cells (av 13 (ls [.int .u8 0, .bool false, .int .u64 0, .int .u64 0, .bool false, .int .u64 0, .int .u64 0, .int .u16 0, .int .u16 0, .int .u8 0, .int .u8 0, .int .u8 0, .int .i64 0])) 32⟩] u10 := M
        refine pl_put M (want_no rfl) rfl 32 _ _ rfl 4 g5 0 (by kernel_rfl) 13 32 (ls [.int .u8 0, .bool false, .int .u64 0, .int .u64 0, .bool false, .int .u64 0, .int .u64 0, .int .u16 0, .int .u16 0, .int .u8 0, .int .u8 0, .int .u8 0, .int .i64 0]) rfl 13 (ls [.int .u8 (zI (dE v0 h0 l0 v1 h1 l1 6 (tB O K by_)) 6), .bool (zB (dE v0 h0 l0 v1 h1 l1 6 (tB O K by_)) v0), .int .u64 (zI (dE v0 h0 l0 v1 h1 l1 6 (tB O K by_)) h0), .int .u64 (zI (dE v0 h0 l0 v1 h1 l1 6 (tB O K by_)) l0), .bool (zB (dE v0 h0 l0 v1 h1 l1 6 (tB O K by_)) v1), .int .u64 (zI (dE v0 h0 l0 v1 h1 l1 6 (tB O K by_)) h1), .int .u64 (zI (dE v0 h0 l0 v1 h1 l1 6 (tB O K by_)) l1), .int .u16 (zI (dE v0 h0 l0 v1 h1 l1 6 (tB O K by_)) (hFr 6 (tB O K by_))), .int .u16 (zI (dE v0 h0 l0 v1 h1 l1 6 (tB O K by_)) (hTo 6 (tB O K by_))), .int .u8 (zI (dE v0 h0 l0 v1 h1 l1 6 (tB O K by_)) (hFl 6 (tB O K by_))), .int .u8 (zI (dE v0 h0 l0 v1 h1 l1 6 (tB O K by_)) (hKi 6 (tB O K by_))), .int .u8 (zI (dE v0 h0 l0 v1 h1 l1 6 (tB O K by_)) (hCo 6 (tB O K by_))), .int .i64 (zI (dE v0 h0 l0 v1 h1 l1 6 (tB O K by_)) (hSz 6 (tB O K by_)))]) (ls [.int .u8 (zI (dE v0 h0 l0 v1 h1 l1 6 (tB O K by_)) 6), .bool (zB (dE v0 h0 l0 v1 h1 l1 6 (tB O K by_)) v0), .int .u64 (zI (dE v0 h0 l0 v1 h1 l1 6 (tB O K by_)) h0), .int .u64 (zI (dE v0 h0 l0 v1 h1 l1 6 (tB O K by_)) l0), .bool (zB (dE v0 h0 l0 v1 h1 l1 6 (tB O K by_)) v1), .int .u64 (zI (dE v0 h0 l0 v1 h1 l1 6 (tB O K by_)) h1), .int .u64 (zI (dE v0 h0 l0 v1 h1 l1 6 (tB O K by_)) l1), .int .u16 (zI (dE v0 h0 l0 v1 h1 l1 6 (tB O K by_)) (hFr 6 (tB O K by_))), .int .u16 (zI (dE v0 h0 l0 v1 h1 l1 6 (tB O K by_)) (hTo 6 (tB O K by_))), .int .u8 (zI (dE v0 h0 l0 v1 h1 l1 6 (tB O K by_)) (hFl 6 (tB O K by_))), .int .u8 (zI (dE v0 h0 l0 v1 h1 l1 6 (tB O K by_)) (hKi 6 (tB O K by_))), .int .u8 (zI (dE v0 h0 l0 v1 h1 l1 6 (tB O K by_)) (hCo 6 (tB O K by_))), .int .i64 (zI (dE v0 h0 l0 v1 h1 l1 6 (tB O K by_)) (hSz 6 (tB O K by_)))]) (by kernel_rfl) inz32 (by decide) (one_ls _ rfl) (fun j hj => by rw [if_pos (by omega), Nat.sub_zero]) ?_
        intro u11 M
        replace M : Mem ⟨w, []⟩ [⟨g1, .cells (av 4 (ls [.bool (v0), .int .u64 h0, .int .u64 l0, .int .u16 f])) 40⟩, ⟨g2, .cells (av 4 (ls [.bool (v1), .int .u64 h1, .int .u64 l1, .int .u16 g])) 40⟩, ⟨g3, .cells (av 9 (ls [.bool (v0), .int .u64 h0, .int .u64 l0, .bool (v1), .int .u64 h1, .int .u64 l1, .int .u8 6, .int .u8 64, .string (tB O K by_)])) 26⟩, ⟨g4, ZA⟩, ⟨g5, .cells (av 13 (ls [.int .u8 (zI (dE v0 h0 l0 v1 h1 l1 6 (tB O K by_)) 6), .bool (zB (dE v0 h0 l0 v1 h1 l1 6 (tB O K by_)) v0), .int .u64 (zI (dE v0 h0 l0 v1 h1 l1 6 (tB O K by_)) h0), .int .u64 (zI (dE v0 h0 l0 v1 h1 l1 6 (tB O K by_)) l0), .bool (zB (dE v0 h0 l0 v1 h1 l1 6 (tB O K by_)) v1), .int .u64 (zI (dE v0 h0 l0 v1 h1 l1 6 (tB O K by_)) h1), .int .u64 (zI (dE v0 h0 l0 v1 h1 l1 6 (tB O K by_)) l1), .int .u16 (zI (dE v0 h0 l0 v1 h1 l1 6 (tB O K by_)) (hFr 6 (tB O K by_))), .int .u16 (zI (dE v0 h0 l0 v1 h1 l1 6 (tB O K by_)) (hTo 6 (tB O K by_))), .int .u8 (zI (dE v0 h0 l0 v1 h1 l1 6 (tB O K by_)) (hFl 6 (tB O K by_))), .int .u8 (zI (dE v0 h0 l0 v1 h1 l1 6 (tB O K by_)) (hKi 6 (tB O K by_))), .int .u8 (zI (dE v0 h0 l0 v1 h1 l1 6 (tB O K by_)) (hCo 6 (tB O K by_))), .int .i64 (zI (dE v0 h0 l0 v1 h1 l1 6 (tB O K by_)) (hSz 6 (tB O K by_)))])) 32⟩] u11 := M
        refine pl_val (want_no rfl) (some 16) rfl (.int .i64 (dE v0 h0 l0 v1 h1 l1 6 (tB O K by_))) (fun _ => by kernel_rfl) ?_
        refine pl_nil ?_
        refine au_then ?_
        refine wp_seq ?_
        refine rg_lit ?_
        refine pl_load M (want_no rfl) (some 71) rfl 40 _ rfl 0 g1 0 (by kernel_rfl) 4 40 (ls [.bool (v0), .int .u64 h0, .int .u64 l0, .int .u16 f]) rfl 4 (ls [.bool (v0), .int .u64 h0, .int .u64 l0, .int .u16 f]) (fun j _ => by rw [Nat.zero_add]) (by decide) _ Try.underlying40 rfl inz40 ?_
        refine pl_load M (want_no rfl) (some 72) rfl 40 _ rfl 1 g2 0 (by kernel_rfl) 4 40 (ls [.bool (v1), .int .u64 h1, .int .u64 l1, .int .u16 g]) rfl 4 (ls [.bool (v1), .int .u64 h1, .int .u64 l1, .int .u16 g]) (fun j _ => by rw [Nat.zero_add]) (by decide) _ Try.underlying40 rfl inz40 ?_
        refine pl_val (want_no rfl) (some 73) rfl (.string d) (fun _ => by kernel_rfl) ?_
        refine pl_call M (want_no rfl) (some 74) rfl 14 #[.agg (av 4 (ls [.bool (v0), .int .u64 h0, .int .u64 l0, .int .u16 f])), .agg (av 4 (ls [.bool (v1), .int .u64 h1, .int .u64 l1, .int .u16 g])), .string d] (.tuple #[.agg (av 9 (ls [.bool (v0), .int .u64 h0, .int .u64 l0, .bool (v1), .int .u64 h1, .int .u64 l1, .int .u8 17, .int .u8 64, .string U])), .int .i64 0]) (fun _ => by kernel_rfl) (fun w M => call_val (c_Udp v0 h0 l0 f v1 h1 l1 g d (by omega) w M.laid) (by simp only [u_fits c2, zI, zB, zS, if_true, hU])) ?_
        intro u12 M
        refine pl_val (want_no rfl) (some 70) rfl (.tuple #[.agg (av 9 (ls [.bool (v0), .int .u64 h0, .int .u64 l0, .bool (v1), .int .u64 h1, .int .u64 l1, .int .u8 17, .int .u8 64, .string U])), .int .i64 0]) (fun _ => by kernel_rfl) ?_
        refine pl_val (want_no rfl) (some 75) rfl (.agg (av 9 (ls [.bool (v0), .int .u64 h0, .int .u64 l0, .bool (v1), .int .u64 h1, .int .u64 l1, .int .u8 17, .int .u8 64, .string U]))) (fun _ => by kernel_rfl) ?_
        refine pl_val (want_no rfl) (some 76) rfl (.int .i64 0) (fun _ => by kernel_rfl) ?_
        refine pl_new M (want_no rfl) (some 17) rfl (.cells (av 9 (ls [.bool false, .int .u64 0, .int .u64 0, .bool false, .int .u64 0, .int .u64 0, .int .u8 0, .int .u8 0, .string ⟨#[]⟩])) 26) (fun _ => by kernel_rfl) ?_
        intro g6 u13 M
        replace M : Mem ⟨w, []⟩ [⟨g1, .cells (av 4 (ls [.bool (v0), .int .u64 h0, .int .u64 l0, .int .u16 f])) 40⟩, ⟨g2, .cells (av 4 (ls [.bool (v1), .int .u64 h1, .int .u64 l1, .int .u16 g])) 40⟩, ⟨g3, .cells (av 9 (ls [.bool (v0), .int .u64 h0, .int .u64 l0, .bool (v1), .int .u64 h1, .int .u64 l1, .int .u8 6, .int .u8 64, .string (tB O K by_)])) 26⟩, ⟨g4, ZA⟩, ⟨g5, .cells (av 13 (ls [.int .u8 (zI (dE v0 h0 l0 v1 h1 l1 6 (tB O K by_)) 6), .bool (zB (dE v0 h0 l0 v1 h1 l1 6 (tB O K by_)) v0), .int .u64 (zI (dE v0 h0 l0 v1 h1 l1 6 (tB O K by_)) h0), .int .u64 (zI (dE v0 h0 l0 v1 h1 l1 6 (tB O K by_)) l0), .bool (zB (dE v0 h0 l0 v1 h1 l1 6 (tB O K by_)) v1), .int .u64 (zI (dE v0 h0 l0 v1 h1 l1 6 (tB O K by_)) h1), .int .u64 (zI (dE v0 h0 l0 v1 h1 l1 6 (tB O K by_)) l1), .int .u16 (zI (dE v0 h0 l0 v1 h1 l1 6 (tB O K by_)) (hFr 6 (tB O K by_))), .int .u16 (zI (dE v0 h0 l0 v1 h1 l1 6 (tB O K by_)) (hTo 6 (tB O K by_))), .int .u8 (zI (dE v0 h0 l0 v1 h1 l1 6 (tB O K by_)) (hFl 6 (tB O K by_))), .int .u8 (zI (dE v0 h0 l0 v1 h1 l1 6 (tB O K by_)) (hKi 6 (tB O K by_))), .int .u8 (zI (dE v0 h0 l0 v1 h1 l1 6 (tB O K by_)) (hCo 6 (tB O K by_))), .int .i64 (zI (dE v0 h0 l0 v1 h1 l1 6 (tB O K by_)) (hSz 6 (tB O K by_)))])) 32⟩, ⟨g6, .cells (av 9 (ls [.bool false, .int .u64 0, .int .u64 0, .bool false, .int .u64 0, .int .u64 0, .int .u8 0, .int .u8 0, .string ⟨#[]⟩])) 26⟩] u13 := M
        refine pl_put M (want_no rfl) rfl 26 _ _ rfl 5 g6 0 (by kernel_rfl) 9 26 (ls [.bool false, .int .u64 0, .int .u64 0, .bool false, .int .u64 0, .int .u64 0, .int .u8 0, .int .u8 0, .string ⟨#[]⟩]) rfl 9 (ls [.bool (v0), .int .u64 h0, .int .u64 l0, .bool (v1), .int .u64 h1, .int .u64 l1, .int .u8 17, .int .u8 64, .string U]) (ls [.bool (v0), .int .u64 h0, .int .u64 l0, .bool (v1), .int .u64 h1, .int .u64 l1, .int .u8 17, .int .u8 64, .string U]) (by kernel_rfl) inz26 (by decide) (one_ls _ rfl) (fun j hj => by rw [if_pos (by omega), Nat.sub_zero]) ?_
        intro u14 M
        replace M : Mem ⟨w, []⟩ [⟨g1, .cells (av 4 (ls [.bool (v0), .int .u64 h0, .int .u64 l0, .int .u16 f])) 40⟩, ⟨g2, .cells (av 4 (ls [.bool (v1), .int .u64 h1, .int .u64 l1, .int .u16 g])) 40⟩, ⟨g3, .cells (av 9 (ls [.bool (v0), .int .u64 h0, .int .u64 l0, .bool (v1), .int .u64 h1, .int .u64 l1, .int .u8 6, .int .u8 64, .string (tB O K by_)])) 26⟩, ⟨g4, ZA⟩, ⟨g5, .cells (av 13 (ls [.int .u8 (zI (dE v0 h0 l0 v1 h1 l1 6 (tB O K by_)) 6), .bool (zB (dE v0 h0 l0 v1 h1 l1 6 (tB O K by_)) v0), .int .u64 (zI (dE v0 h0 l0 v1 h1 l1 6 (tB O K by_)) h0), .int .u64 (zI (dE v0 h0 l0 v1 h1 l1 6 (tB O K by_)) l0), .bool (zB (dE v0 h0 l0 v1 h1 l1 6 (tB O K by_)) v1), .int .u64 (zI (dE v0 h0 l0 v1 h1 l1 6 (tB O K by_)) h1), .int .u64 (zI (dE v0 h0 l0 v1 h1 l1 6 (tB O K by_)) l1), .int .u16 (zI (dE v0 h0 l0 v1 h1 l1 6 (tB O K by_)) (hFr 6 (tB O K by_))), .int .u16 (zI (dE v0 h0 l0 v1 h1 l1 6 (tB O K by_)) (hTo 6 (tB O K by_))), .int .u8 (zI (dE v0 h0 l0 v1 h1 l1 6 (tB O K by_)) (hFl 6 (tB O K by_))), .int .u8 (zI (dE v0 h0 l0 v1 h1 l1 6 (tB O K by_)) (hKi 6 (tB O K by_))), .int .u8 (zI (dE v0 h0 l0 v1 h1 l1 6 (tB O K by_)) (hCo 6 (tB O K by_))), .int .i64 (zI (dE v0 h0 l0 v1 h1 l1 6 (tB O K by_)) (hSz 6 (tB O K by_)))])) 32⟩, ⟨g6, .cells (av 9 (ls [.bool (v0), .int .u64 h0, .int .u64 l0, .bool (v1), .int .u64 h1, .int .u64 l1, .int .u8 17, .int .u8 64, .string U])) 26⟩] u14 := M
        refine pl_val (want_no rfl) (some 18) rfl (.int .i64 0) (fun _ => by kernel_rfl) ?_
        refine pl_nil ?_
        refine au_then ?_
        refine wp_seq ?_
        refine rg_lit ?_
        refine pl_val (want_no rfl) (some 77) rfl (.pointer (some ⟨g6, 8, none⟩)) (fun _ => by kernel_rfl) ?_
        refine pl_cell M (want_no rfl) (some 78) rfl 9 _ rfl g6 8 (by kernel_rfl) (.string U) (fun _ => by kernel_rfl) (fun w M => M.cell 5 rfl (by decide) rfl) ?_
        refine pl_conv M (want_no rfl) (some 79) rfl _ rfl U (by kernel_rfl) ?_
        intro g7 cap2 Z2 u15 hZ2 M
        replace M : Mem ⟨w, []⟩ [⟨g1, .cells (av 4 (ls [.bool (v0), .int .u64 h0, .int .u64 l0, .int .u16 f])) 40⟩, ⟨g2, .cells (av 4 (ls [.bool (v1), .int .u64 h1, .int .u64 l1, .int .u16 g])) 40⟩, ⟨g3, .cells (av 9 (ls [.bool (v0), .int .u64 h0, .int .u64 l0, .bool (v1), .int .u64 h1, .int .u64 l1, .int .u8 6, .int .u8 64, .string (tB O K by_)])) 26⟩, ⟨g4, ZA⟩, ⟨g5, .cells (av 13 (ls [.int .u8 (zI (dE v0 h0 l0 v1 h1 l1 6 (tB O K by_)) 6), .bool (zB (dE v0 h0 l0 v1 h1 l1 6 (tB O K by_)) v0), .int .u64 (zI (dE v0 h0 l0 v1 h1 l1 6 (tB O K by_)) h0), .int .u64 (zI (dE v0 h0 l0 v1 h1 l1 6 (tB O K by_)) l0), .bool (zB (dE v0 h0 l0 v1 h1 l1 6 (tB O K by_)) v1), .int .u64 (zI (dE v0 h0 l0 v1 h1 l1 6 (tB O K by_)) h1), .int .u64 (zI (dE v0 h0 l0 v1 h1 l1 6 (tB O K by_)) l1), .int .u16 (zI (dE v0 h0 l0 v1 h1 l1 6 (tB O K by_)) (hFr 6 (tB O K by_))), .int .u16 (zI (dE v0 h0 l0 v1 h1 l1 6 (tB O K by_)) (hTo 6 (tB O K by_))), .int .u8 (zI (dE v0 h0 l0 v1 h1 l1 6 (tB O K by_)) (hFl 6 (tB O K by_))), .int .u8 (zI (dE v0 h0 l0 v1 h1 l1 6 (tB O K by_)) (hKi 6 (tB O K by_))), .int .u8 (zI (dE v0 h0 l0 v1 h1 l1 6 (tB O K by_)) (hCo 6 (tB O K by_))), .int .i64 (zI (dE v0 h0 l0 v1 h1 l1 6 (tB O K by_)) (hSz 6 (tB O K by_)))])) 32⟩, ⟨g6, .cells (av 9 (ls [.bool (v0), .int .u64 h0, .int .u64 l0, .bool (v1), .int .u64 h1, .int .u64 l1, .int .u8 17, .int .u8 64, .string U])) 26⟩, ⟨g7, Z2⟩] u15 := M
        refine pl_val (want_no rfl) (some 19) rfl (.slice (some ⟨g7, 0, none⟩) U.size cap2) (fun _ => by kernel_rfl) ?_
        refine pl_nil ?_
        refine au_then ?_
        refine wp_seq ?_
        refine wp_seq ?_
        refine rg_lit ?_
        refine pl_val (want_no rfl) (some 80) rfl (.slice (some ⟨g7, 0, none⟩) U.size cap2) (fun _ => by kernel_rfl) ?_
        refine pl_val (want_no rfl) (some 81) rfl (.int .i64 ((U.size : Nat) : Int)) (fun _ => by kernel_rfl) ?_
        refine pl_val (want_no rfl) (some 82) rfl (.bool false) (fun w => Eq.trans (b := .ok (.value (.bool (decide (((U.size : Nat) : Int) < 8)))) w) (by kernel_rfl) (by rw [decide_eq_false (by omega)])) ?_
        refine pl_nil ?_
        refine au_then ?_
        refine wp_cond_false (by kernel_rfl) ?_
        refine wp_skip ?_
        refine au_then ?_
        refine wp_seq ?_
        refine rg_lit ?_
        refine pl_val (want_no rfl) (some 83) rfl (.int .u16 at_) (fun _ => by kernel_rfl) ?_
        refine pl_val (want_no rfl) (some 84) rfl (.int .i64 ((at_.toNat : Nat) : Int)) (fun w => Eq.trans (b := .ok (.value (.int .i64 (cv .i64 at_))) w) (by kernel_rfl) (by rw [cv_i64 (by omega) (by omega)]; congr 3; omega)) ?_
        refine pl_val (want_no rfl) (some 85) rfl (.slice (some ⟨g7, 0, none⟩) U.size cap2) (fun _ => by kernel_rfl) ?_
        refine pl_val (want_no rfl) (some 86) rfl (.int .i64 ((U.size : Nat) : Int)) (fun _ => by kernel_rfl) ?_
        refine pl_val (want_no rfl) (some 87) rfl (.int .i64 (m : Int)) (fun w => Eq.trans (run_remN 3 3 _ _ rfl at_.toNat U.size (by kernel_rfl) (by kernel_rfl) (by omega) w) (by rw [hm])) ?_
        refine pl_val (want_no rfl) (some 20) rfl (.int .i64 (m : Int)) (fun _ => by kernel_rfl) ?_
        refine pl_nil ?_
        refine au_then ?_
        refine wp_seq ?_
        refine rg_lit ?_
        refine pl_val (want_no rfl) (some 88) rfl (.slice (some ⟨g7, 0, none⟩) U.size cap2) (fun _ => by kernel_rfl) ?_
        refine pl_val (want_no rfl) (some 89) rfl (.int .i64 (m : Int)) (fun _ => by kernel_rfl) ?_
        refine pl_val (want_no rfl) (some 90) rfl (.slice (some ⟨g7, 0, none⟩) U.size cap2) (fun _ => by kernel_rfl) ?_
        refine pl_val (want_no rfl) (some 91) rfl (.int .i64 (m : Int)) (fun _ => by kernel_rfl) ?_
        refine pl_val (want_no rfl) (some 92) rfl (.pointer (some ⟨g7, m, none⟩)) (run_ix0 47 5 Try.underlying47 inz5 _ _ rfl g7 U.size cap2 (by kernel_rfl) .i64 m (by kernel_rfl) (hml)) ?_
        refine pl_cell M (want_no rfl) (some 93) rfl 5 _ rfl g7 m (by kernel_rfl) (.int .u8 (bt U m)) (fun _ => by kernel_rfl) (fun w M => hZ2.cell (M.get 6 rfl) (vs8_sb _ _ (hml))) ?_
        refine pl_val (want_no rfl) (some 94) rfl (.int .u8 by_) (fun _ => by kernel_rfl) ?_
        refine pl_val (want_no rfl) (some 95) rfl (.int .u8 (xb (bt U m) by_)) (fun _ => by kernel_rfl) ?_
        refine pl_val (want_no rfl) (some 96) rfl (.pointer (some ⟨g7, m, none⟩)) (run_ix0 47 5 Try.underlying47 inz5 _ _ rfl g7 U.size cap2 (by kernel_rfl) .i64 m (by kernel_rfl) (hml)) ?_
        refine pl_putS M (want_no rfl) rfl 5 _ _ rfl 6 g7 m (by kernel_rfl) _ rfl cap2 _ hZ2 (by rw [vs8_length, sb_length]; exact hml) (.int .u8 (xb (bt U m) by_)) (by kernel_rfl) inz5 rfl rfl ?_
        intro ZB u16 hZB M
        rw [vs8_set] at hZB
        replace M : Mem ⟨w, []⟩ [⟨g1, .cells (av 4 (ls [.bool (v0), .int .u64 h0, .int .u64 l0, .int .u16 f])) 40⟩, ⟨g2, .cells (av 4 (ls [.bool (v1), .int .u64 h1, .int .u64 l1, .int .u16 g])) 40⟩, ⟨g3, .cells (av 9 (ls [.bool (v0), .int .u64 h0, .int .u64 l0, .bool (v1), .int .u64 h1, .int .u64 l1, .int .u8 6, .int .u8 64, .string (tB O K by_)])) 26⟩, ⟨g4, ZA⟩, ⟨g5, .cells (av 13 (ls [.int .u8 (zI (dE v0 h0 l0 v1 h1 l1 6 (tB O K by_)) 6), .bool (zB (dE v0 h0 l0 v1 h1 l1 6 (tB O K by_)) v0), .int .u64 (zI (dE v0 h0 l0 v1 h1 l1 6 (tB O K by_)) h0), .int .u64 (zI (dE v0 h0 l0 v1 h1 l1 6 (tB O K by_)) l0), .bool (zB (dE v0 h0 l0 v1 h1 l1 6 (tB O K by_)) v1), .int .u64 (zI (dE v0 h0 l0 v1 h1 l1 6 (tB O K by_)) h1), .int .u64 (zI (dE v0 h0 l0 v1 h1 l1 6 (tB O K by_)) l1), .int .u16 (zI (dE v0 h0 l0 v1 h1 l1 6 (tB O K by_)) (hFr 6 (tB O K by_))), .int .u16 (zI (dE v0 h0 l0 v1 h1 l1 6 (tB O K by_)) (hTo 6 (tB O K by_))), .int .u8 (zI (dE v0 h0 l0 v1 h1 l1 6 (tB O K by_)) (hFl 6 (tB O K by_))), .int .u8 (zI (dE v0 h0 l0 v1 h1 l1 6 (tB O K by_)) (hKi 6 (tB O K by_))), .int .u8 (zI (dE v0 h0 l0 v1 h1 l1 6 (tB O K by_)) (hCo 6 (tB O K by_))), .int .i64 (zI (dE v0 h0 l0 v1 h1 l1 6 (tB O K by_)) (hSz 6 (tB O K by_)))])) 32⟩, ⟨g6, .cells (av 9 (ls [.bool (v0), .int .u64 h0, .int .u64 l0, .bool (v1), .int .u64 h1, .int .u64 l1, .int .u8 17, .int .u8 64, .string U])) 26⟩, ⟨g7, ZB⟩] u16 := M
        refine pl_nil ?_
        refine au_then ?_
        refine wp_seq ?_
        refine rg_lit ?_
        refine pl_val (want_no rfl) (some 97) rfl (.slice (some ⟨g7, 0, none⟩) U.size cap2) (fun _ => by kernel_rfl) ?_
        refine pl_val (want_no rfl) (some 98) rfl (.pointer (some ⟨g7, 6, none⟩)) (run_ix0 47 5 Try.underlying47 inz5 _ _ rfl g7 U.size cap2 (by kernel_rfl) .i64 6 (by kernel_rfl) (by omega)) ?_
        refine pl_cell M (want_no rfl) (some 99) rfl 5 _ rfl g7 6 (by kernel_rfl) (.int .u8 (bt (tB U m by_) 6)) (fun _ => by kernel_rfl) (fun w M => hZB.cell (M.get 6 rfl) (tB_get _ _ _ 6 (by omega))) ?_
        by_cases c3 : (bt (tB U m by_) 6) = 0
        · skip
          refine pl_val (want_no rfl) (some 100) rfl (.bool true) (fun w => Eq.trans (b := .ok (.value (.bool (decide ((bt (tB U m by_) 6) = 0)))) w) (by kernel_rfl) (by rw [decide_eq_true (c3)])) ?_
          refine pl_val (want_no rfl) (some 101) rfl (.bool true) (fun _ => by kernel_rfl) ?_
          refine pl_val (want_on 4 true rfl 101 rfl (by kernel_rfl)) (some 102) rfl (.slice (some ⟨g7, 0, none⟩) U.size cap2) (fun _ => by kernel_rfl) ?_
          refine pl_val (want_on 4 true rfl 101 rfl (by kernel_rfl)) (some 103) rfl (.pointer (some ⟨g7, 7, none⟩)) (run_ix0 47 5 Try.underlying47 inz5 _ _ rfl g7 U.size cap2 (by kernel_rfl) .i64 7 (by kernel_rfl) (by omega)) ?_
          refine pl_cell M (want_on 4 true rfl 101 rfl (by kernel_rfl)) (some 104) rfl 5 _ rfl g7 7 (by kernel_rfl) (.int .u8 (bt (tB U m by_) 7)) (fun _ => by kernel_rfl) (fun w M => hZB.cell (M.get 6 rfl) (tB_get _ _ _ 7 (by omega))) ?_
          by_cases c4 : (bt (tB U m by_) 7) = 0
          · skip
            refine pl_val (want_on 4 true rfl 101 rfl (by kernel_rfl)) (some 105) rfl (.bool true) (fun w => Eq.trans (b := .ok (.value (.bool (decide ((bt (tB U m by_) 7) = 0)))) w) (by kernel_rfl) (by rw [decide_eq_true (c4)])) ?_
            refine pl_val (want_no rfl) (some 106) rfl (.bool true) (fun _ => by kernel_rfl) ?_
            refine pl_val (want_no rfl) (some 21) rfl (.bool true) (fun _ => by kernel_rfl) ?_
            refine pl_nil ?_
            refine au_then ?_
            refine wp_seq ?_
            refine rg_lit ?_
            refine pl_val (want_no rfl) (some 107) rfl (.slice (some ⟨g7, 0, none⟩) U.size cap2) (fun _ => by kernel_rfl) ?_
            refine pl_back M (want_no rfl) (some 108) rfl _ rfl 6 g7 U.size cap2 (by kernel_rfl) _ rfl ((sb U).set m (xb (bt U m) by_)) cap2 hZB (by rw [List.length_set, sb_length]) (fun y hy => by rw [← tB_sb] at hy; exact sb_nn _ y hy) ?_
            refine pl_val (want_no rfl) (some 109) rfl (.pointer (some ⟨g6, 8, none⟩)) (fun _ => by kernel_rfl) ?_
            refine pl_put1 M (want_no rfl) rfl 9 _ _ rfl 5 g6 8 (by kernel_rfl) 9 26 (ls [.bool (v0), .int .u64 h0, .int .u64 l0, .bool (v1), .int .u64 h1, .int .u64 l1, .int .u8 17, .int .u8 64, .string U]) rfl (.string (tB U m by_)) (ls [.bool (v0), .int .u64 h0, .int .u64 l0, .bool (v1), .int .u64 h1, .int .u64 l1, .int .u8 17, .int .u8 64, .string (tB U m by_)]) (by kernel_rfl) inz9 (by decide) rfl rfl (put_ls _ 8 _ _ rfl) ?_
            intro u17 M
            replace M : Mem ⟨w, []⟩ [⟨g1, .cells (av 4 (ls [.bool (v0), .int .u64 h0, .int .u64 l0, .int .u16 f])) 40⟩, ⟨g2, .cells (av 4 (ls [.bool (v1), .int .u64 h1, .int .u64 l1, .int .u16 g])) 40⟩, ⟨g3, .cells (av 9 (ls [.bool (v0), .int .u64 h0, .int .u64 l0, .bool (v1), .int .u64 h1, .int .u64 l1, .int .u8 6, .int .u8 64, .string (tB O K by_)])) 26⟩, ⟨g4, ZA⟩, ⟨g5, .cells (av 13 (ls [.int .u8 (zI (dE v0 h0 l0 v1 h1 l1 6 (tB O K by_)) 6), .bool (zB (dE v0 h0 l0 v1 h1 l1 6 (tB O K by_)) v0), .int .u64 (zI (dE v0 h0 l0 v1 h1 l1 6 (tB O K by_)) h0), .int .u64 (zI (dE v0 h0 l0 v1 h1 l1 6 (tB O K by_)) l0), .bool (zB (dE v0 h0 l0 v1 h1 l1 6 (tB O K by_)) v1), .int .u64 (zI (dE v0 h0 l0 v1 h1 l1 6 (tB O K by_)) h1), .int .u64 (zI (dE v0 h0 l0 v1 h1 l1 6 (tB O K by_)) l1), .int .u16 (zI (dE v0 h0 l0 v1 h1 l1 6 (tB O K by_)) (hFr 6 (tB O K by_))), .int .u16 (zI (dE v0 h0 l0 v1 h1 l1 6 (tB O K by_)) (hTo 6 (tB O K by_))), .int .u8 (zI (dE v0 h0 l0 v1 h1 l1 6 (tB O K by_)) (hFl 6 (tB O K by_))), .int .u8 (zI (dE v0 h0 l0 v1 h1 l1 6 (tB O K by_)) (hKi 6 (tB O K by_))), .int .u8 (zI (dE v0 h0 l0 v1 h1 l1 6 (tB O K by_)) (hCo 6 (tB O K by_))), .int .i64 (zI (dE v0 h0 l0 v1 h1 l1 6 (tB O K by_)) (hSz 6 (tB O K by_)))])) 32⟩, ⟨g6, .cells (av 9 (ls [.bool (v0), .int .u64 h0, .int .u64 l0, .bool (v1), .int .u64 h1, .int .u64 l1, .int .u8 17, .int .u8 64, .string (tB U m by_)])) 26⟩, ⟨g7, ZB⟩] u17 := M
            refine pl_nil ?_
            refine au_then ?_
            refine wp_seq ?_
            refine rg_lit ?_
            refine pl_load M (want_no rfl) (some 111) rfl 26 _ rfl 5 g6 0 (by kernel_rfl) 9 26 (ls [.bool (v0), .int .u64 h0, .int .u64 l0, .bool (v1), .int .u64 h1, .int .u64 l1, .int .u8 17, .int .u8 64, .string (tB U m by_)]) rfl 9 (ls [.bool (v0), .int .u64 h0, .int .u64 l0, .bool (v1), .int .u64 h1, .int .u64 l1, .int .u8 17, .int .u8 64, .string (tB U m by_)]) (fun j _ => by rw [Nat.zero_add]) (by decide) _ Try.underlying26 rfl inz26 ?_
            refine pl_call M (want_no rfl) (some 112) rfl 8 #[.agg (av 9 (ls [.bool (v0), .int .u64 h0, .int .u64 l0, .bool (v1), .int .u64 h1, .int .u64 l1, .int .u8 17, .int .u8 64, .string (tB U m by_)]))] (.tuple #[.agg (av 13 (ls [.int .u8 (zI (dE v0 h0 l0 v1 h1 l1 17 (tB U m by_)) 17), .bool (zB (dE v0 h0 l0 v1 h1 l1 17 (tB U m by_)) v0), .int .u64 (zI (dE v0 h0 l0 v1 h1 l1 17 (tB U m by_)) h0), .int .u64 (zI (dE v0 h0 l0 v1 h1 l1 17 (tB U m by_)) l0), .bool (zB (dE v0 h0 l0 v1 h1 l1 17 (tB U m by_)) v1), .int .u64 (zI (dE v0 h0 l0 v1 h1 l1 17 (tB U m by_)) h1), .int .u64 (zI (dE v0 h0 l0 v1 h1 l1 17 (tB U m by_)) l1), .int .u16 (zI (dE v0 h0 l0 v1 h1 l1 17 (tB U m by_)) (hFr 17 (tB U m by_))), .int .u16 (zI (dE v0 h0 l0 v1 h1 l1 17 (tB U m by_)) (hTo 17 (tB U m by_))), .int .u8 (zI (dE v0 h0 l0 v1 h1 l1 17 (tB U m by_)) (hFl 17 (tB U m by_))), .int .u8 (zI (dE v0 h0 l0 v1 h1 l1 17 (tB U m by_)) (hKi 17 (tB U m by_))), .int .u8 (zI (dE v0 h0 l0 v1 h1 l1 17 (tB U m by_)) (hCo 17 (tB U m by_))), .int .i64 (zI (dE v0 h0 l0 v1 h1 l1 17 (tB U m by_)) (hSz 17 (tB U m by_)))])), .int .i64 (dE v0 h0 l0 v1 h1 l1 17 (tB U m by_))]) (fun _ => by kernel_rfl) (fun w M => c_Decode v0 h0 l0 v1 h1 l1 17 64 (tB U m by_) (by rw [tB_size]; omega) (by decide) w M.laid) ?_
            intro u18 M
            refine pl_val (want_no rfl) (some 110) rfl (.tuple #[.agg (av 13 (ls [.int .u8 (zI (dE v0 h0 l0 v1 h1 l1 17 (tB U m by_)) 17), .bool (zB (dE v0 h0 l0 v1 h1 l1 17 (tB U m by_)) v0), .int .u64 (zI (dE v0 h0 l0 v1 h1 l1 17 (tB U m by_)) h0), .int .u64 (zI (dE v0 h0 l0 v1 h1 l1 17 (tB U m by_)) l0), .bool (zB (dE v0 h0 l0 v1 h1 l1 17 (tB U m by_)) v1), .int .u64 (zI (dE v0 h0 l0 v1 h1 l1 17 (tB U m by_)) h1), .int .u64 (zI (dE v0 h0 l0 v1 h1 l1 17 (tB U m by_)) l1), .int .u16 (zI (dE v0 h0 l0 v1 h1 l1 17 (tB U m by_)) (hFr 17 (tB U m by_))), .int .u16 (zI (dE v0 h0 l0 v1 h1 l1 17 (tB U m by_)) (hTo 17 (tB U m by_))), .int .u8 (zI (dE v0 h0 l0 v1 h1 l1 17 (tB U m by_)) (hFl 17 (tB U m by_))), .int .u8 (zI (dE v0 h0 l0 v1 h1 l1 17 (tB U m by_)) (hKi 17 (tB U m by_))), .int .u8 (zI (dE v0 h0 l0 v1 h1 l1 17 (tB U m by_)) (hCo 17 (tB U m by_))), .int .i64 (zI (dE v0 h0 l0 v1 h1 l1 17 (tB U m by_)) (hSz 17 (tB U m by_)))])), .int .i64 (dE v0 h0 l0 v1 h1 l1 17 (tB U m by_))]) (fun _ => by kernel_rfl) ?_
            refine pl_val (want_no rfl) (some 113) rfl (.agg (av 13 (ls [.int .u8 (zI (dE v0 h0 l0 v1 h1 l1 17 (tB U m by_)) 17), .bool (zB (dE v0 h0 l0 v1 h1 l1 17 (tB U m by_)) v0), .int .u64 (zI (dE v0 h0 l0 v1 h1 l1 17 (tB U m by_)) h0), .int .u64 (zI (dE v0 h0 l0 v1 h1 l1 17 (tB U m by_)) l0), .bool (zB (dE v0 h0 l0 v1 h1 l1 17 (tB U m by_)) v1), .int .u64 (zI (dE v0 h0 l0 v1 h1 l1 17 (tB U m by_)) h1), .int .u64 (zI (dE v0 h0 l0 v1 h1 l1 17 (tB U m by_)) l1), .int .u16 (zI (dE v0 h0 l0 v1 h1 l1 17 (tB U m by_)) (hFr 17 (tB U m by_))), .int .u16 (zI (dE v0 h0 l0 v1 h1 l1 17 (tB U m by_)) (hTo 17 (tB U m by_))), .int .u8 (zI (dE v0 h0 l0 v1 h1 l1 17 (tB U m by_)) (hFl 17 (tB U m by_))), .int .u8 (zI (dE v0 h0 l0 v1 h1 l1 17 (tB U m by_)) (hKi 17 (tB U m by_))), .int .u8 (zI (dE v0 h0 l0 v1 h1 l1 17 (tB U m by_)) (hCo 17 (tB U m by_))), .int .i64 (zI (dE v0 h0 l0 v1 h1 l1 17 (tB U m by_)) (hSz 17 (tB U m by_)))]))) (fun _ => by kernel_rfl) ?_
            refine pl_val (want_no rfl) (some 114) rfl (.int .i64 (dE v0 h0 l0 v1 h1 l1 17 (tB U m by_))) (fun _ => by kernel_rfl) ?_
            refine pl_new M (want_no rfl) (some 22) rfl (.cells (av 13 (ls [.int .u8 0, .bool false, .int .u64 0, .int .u64 0, .bool false, .int .u64 0, .int .u64 0, .int .u16 0, .int .u16 0, .int .u8 0, .int .u8 0, .int .u8 0, .int .i64 0])) 32) (fun _ => by kernel_rfl) ?_
            intro g8 u19 M
            replace M : Mem ⟨w, []⟩ [⟨g1, .cells (av 4 (ls [.bool (v0), .int .u64 h0, .int .u64 l0, .int .u16 f])) 40⟩, ⟨g2, .cells (av 4 (ls [.bool (v1), .int .u64 h1, .int .u64 l1, .int .u16 g])) 40⟩, ⟨g3, .cells (av 9 (ls [.bool (v0), .int .u64 h0, .int .u64 l0, .bool (v1), .int .u64 h1, .int .u64 l1, .int .u8 6, .int .u8 64, .string (tB O K by_)])) 26⟩, ⟨g4, ZA⟩, ⟨g5, .cells (av 13 (ls [.int .u8 (zI (dE v0 h0 l0 v1 h1 l1 6 (tB O K by_)) 6), .bool (zB (dE v0 h0 l0 v1 h1 l1 6 (tB O K by_)) v0), .int .u64 (zI (dE v0 h0 l0 v1 h1 l1 6 (tB O K by_)) h0), .int .u64 (zI (dE v0 h0 l0 v1 h1 l1 6 (tB O K by_)) l0), .bool (zB (dE v0 h0 l0 v1 h1 l1 6 (tB O K by_)) v1), .int .u64 (zI (dE v0 h0 l0 v1 h1 l1 6 (tB O K by_)) h1), .int .u64 (zI (dE v0 h0 l0 v1 h1 l1 6 (tB O K by_)) l1), .int .u16 (zI (dE v0 h0 l0 v1 h1 l1 6 (tB O K by_)) (hFr 6 (tB O K by_))), .int .u16 (zI (dE v0 h0 l0 v1 h1 l1 6 (tB O K by_)) (hTo 6 (tB O K by_))), .int .u8 (zI (dE v0 h0 l0 v1 h1 l1 6 (tB O K by_)) (hFl 6 (tB O K by_))), .int .u8 (zI (dE v0 h0 l0 v1 h1 l1 6 (tB O K by_)) (hKi 6 (tB O K by_))), .int .u8 (zI (dE v0 h0 l0 v1 h1 l1 6 (tB O K by_)) (hCo 6 (tB O K by_))), .int .i64 (zI (dE v0 h0 l0 v1 h1 l1 6 (tB O K by_)) (hSz 6 (tB O K by_)))])) 32⟩, ⟨g6, .cells (av 9 (ls [.bool (v0), .int .u64 h0, .int .u64 l0, .bool (v1), .int .u64 h1, .int .u64 l1, .int .u8 17, .int .u8 64, .string (tB U m by_)])) 26⟩, ⟨g7, ZB⟩, ⟨g8, .cells (av 13 (ls [.int .u8 0, .bool false, .int .u64 0, .int .u64 0, .bool false, .int .u64 0, .int .u64 0, .int .u16 0, .int .u16 0, .int .u8 0, .int .u8 0, .int .u8 0, .int .i64 0])) 32⟩] u19 := M
            refine pl_put M (want_no rfl) rfl 32 _ _ rfl 7 g8 0 (by kernel_rfl) 13 32 (ls [.int .u8 0, .bool false, .int .u64 0, .int .u64 0, .bool false, .int .u64 0, .int .u64 0, .int .u16 0, .int .u16 0, .int .u8 0, .int .u8 0, .int .u8 0, .int .i64 0]) rfl 13 (ls [.int .u8 (zI (dE v0 h0 l0 v1 h1 l1 17 (tB U m by_)) 17), .bool (zB (dE v0 h0 l0 v1 h1 l1 17 (tB U m by_)) v0), .int .u64 (zI (dE v0 h0 l0 v1 h1 l1 17 (tB U m by_)) h0), .int .u64 (zI (dE v0 h0 l0 v1 h1 l1 17 (tB U m by_)) l0), .bool (zB (dE v0 h0 l0 v1 h1 l1 17 (tB U m by_)) v1), .int .u64 (zI (dE v0 h0 l0 v1 h1 l1 17 (tB U m by_)) h1), .int .u64 (zI (dE v0 h0 l0 v1 h1 l1 17 (tB U m by_)) l1), .int .u16 (zI (dE v0 h0 l0 v1 h1 l1 17 (tB U m by_)) (hFr 17 (tB U m by_))), .int .u16 (zI (dE v0 h0 l0 v1 h1 l1 17 (tB U m by_)) (hTo 17 (tB U m by_))), .int .u8 (zI (dE v0 h0 l0 v1 h1 l1 17 (tB U m by_)) (hFl 17 (tB U m by_))), .int .u8 (zI (dE v0 h0 l0 v1 h1 l1 17 (tB U m by_)) (hKi 17 (tB U m by_))), .int .u8 (zI (dE v0 h0 l0 v1 h1 l1 17 (tB U m by_)) (hCo 17 (tB U m by_))), .int .i64 (zI (dE v0 h0 l0 v1 h1 l1 17 (tB U m by_)) (hSz 17 (tB U m by_)))]) (ls [.int .u8 (zI (dE v0 h0 l0 v1 h1 l1 17 (tB U m by_)) 17), .bool (zB (dE v0 h0 l0 v1 h1 l1 17 (tB U m by_)) v0), .int .u64 (zI (dE v0 h0 l0 v1 h1 l1 17 (tB U m by_)) h0), .int .u64 (zI (dE v0 h0 l0 v1 h1 l1 17 (tB U m by_)) l0), .bool (zB (dE v0 h0 l0 v1 h1 l1 17 (tB U m by_)) v1), .int .u64 (zI (dE v0 h0 l0 v1 h1 l1 17 (tB U m by_)) h1), .int .u64 (zI (dE v0 h0 l0 v1 h1 l1 17 (tB U m by_)) l1), .int .u16 (zI (dE v0 h0 l0 v1 h1 l1 17 (tB U m by_)) (hFr 17 (tB U m by_))), .int .u16 (zI (dE v0 h0 l0 v1 h1 l1 17 (tB U m by_)) (hTo 17 (tB U m by_))), .int .u8 (zI (dE v0 h0 l0 v1 h1 l1 17 (tB U m by_)) (hFl 17 (tB U m by_))), .int .u8 (zI (dE v0 h0 l0 v1 h1 l1 17 (tB U m by_)) (hKi 17 (tB U m by_))), .int .u8 (zI (dE v0 h0 l0 v1 h1 l1 17 (tB U m by_)) (hCo 17 (tB U m by_))), .int .i64 (zI (dE v0 h0 l0 v1 h1 l1 17 (tB U m by_)) (hSz 17 (tB U m by_)))]) (by kernel_rfl) inz32 (by decide) (one_ls _ rfl) (fun j hj => by rw [if_pos (by omega), Nat.sub_zero]) ?_
            intro u20 M
            replace M : Mem ⟨w, []⟩ [⟨g1, .cells (av 4 (ls [.bool (v0), .int .u64 h0, .int .u64 l0, .int .u16 f])) 40⟩, ⟨g2, .cells (av 4 (ls [.bool (v1), .int .u64 h1, .int .u64 l1, .int .u16 g])) 40⟩, ⟨g3, .cells (av 9 (ls [.bool (v0), .int .u64 h0, .int .u64 l0, .bool (v1), .int .u64 h1, .int .u64 l1, .int .u8 6, .int .u8 64, .string (tB O K by_)])) 26⟩, ⟨g4, ZA⟩, ⟨g5, .cells (av 13 (ls [.int .u8 (zI (dE v0 h0 l0 v1 h1 l1 6 (tB O K by_)) 6), .bool (zB (dE v0 h0 l0 v1 h1 l1 6 (tB O K by_)) v0), .int .u64 (zI (dE v0 h0 l0 v1 h1 l1 6 (tB O K by_)) h0), .int .u64 (zI (dE v0 h0 l0 v1 h1 l1 6 (tB O K by_)) l0), .bool (zB (dE v0 h0 l0 v1 h1 l1 6 (tB O K by_)) v1), .int .u64 (zI (dE v0 h0 l0 v1 h1 l1 6 (tB O K by_)) h1), .int .u64 (zI (dE v0 h0 l0 v1 h1 l1 6 (tB O K by_)) l1), .int .u16 (zI (dE v0 h0 l0 v1 h1 l1 6 (tB O K by_)) (hFr 6 (tB O K by_))), .int .u16 (zI (dE v0 h0 l0 v1 h1 l1 6 (tB O K by_)) (hTo 6 (tB O K by_))), .int .u8 (zI (dE v0 h0 l0 v1 h1 l1 6 (tB O K by_)) (hFl 6 (tB O K by_))), .int .u8 (zI (dE v0 h0 l0 v1 h1 l1 6 (tB O K by_)) (hKi 6 (tB O K by_))), .int .u8 (zI (dE v0 h0 l0 v1 h1 l1 6 (tB O K by_)) (hCo 6 (tB O K by_))), .int .i64 (zI (dE v0 h0 l0 v1 h1 l1 6 (tB O K by_)) (hSz 6 (tB O K by_)))])) 32⟩, ⟨g6, .cells (av 9 (ls [.bool (v0), .int .u64 h0, .int .u64 l0, .bool (v1), .int .u64 h1, .int .u64 l1, .int .u8 17, .int .u8 64, .string (tB U m by_)])) 26⟩, ⟨g7, ZB⟩, ⟨g8, .cells (av 13 (ls [.int .u8 (zI (dE v0 h0 l0 v1 h1 l1 17 (tB U m by_)) 17), .bool (zB (dE v0 h0 l0 v1 h1 l1 17 (tB U m by_)) v0), .int .u64 (zI (dE v0 h0 l0 v1 h1 l1 17 (tB U m by_)) h0), .int .u64 (zI (dE v0 h0 l0 v1 h1 l1 17 (tB U m by_)) l0), .bool (zB (dE v0 h0 l0 v1 h1 l1 17 (tB U m by_)) v1), .int .u64 (zI (dE v0 h0 l0 v1 h1 l1 17 (tB U m by_)) h1), .int .u64 (zI (dE v0 h0 l0 v1 h1 l1 17 (tB U m by_)) l1), .int .u16 (zI (dE v0 h0 l0 v1 h1 l1 17 (tB U m by_)) (hFr 17 (tB U m by_))), .int .u16 (zI (dE v0 h0 l0 v1 h1 l1 17 (tB U m by_)) (hTo 17 (tB U m by_))), .int .u8 (zI (dE v0 h0 l0 v1 h1 l1 17 (tB U m by_)) (hFl 17 (tB U m by_))), .int .u8 (zI (dE v0 h0 l0 v1 h1 l1 17 (tB U m by_)) (hKi 17 (tB U m by_))), .int .u8 (zI (dE v0 h0 l0 v1 h1 l1 17 (tB U m by_)) (hCo 17 (tB U m by_))), .int .i64 (zI (dE v0 h0 l0 v1 h1 l1 17 (tB U m by_)) (hSz 17 (tB U m by_)))])) 32⟩] u20 := M
            refine pl_val (want_no rfl) (some 23) rfl (.int .i64 (dE v0 h0 l0 v1 h1 l1 17 (tB U m by_))) (fun _ => by kernel_rfl) ?_
            refine pl_nil ?_
            refine au_then ?_
            refine wp_seq ?_
            refine rg_lit ?_
            refine pl_val (want_no rfl) (some 115) rfl (.int .i64 (dE v0 h0 l0 v1 h1 l1 6 (tB O K by_))) (fun _ => by kernel_rfl) ?_
            refine pl_val (want_no rfl) (some 116) rfl (.bool true) (fun w => Eq.trans (b := .ok (.value (.bool (!(decide ((dE v0 h0 l0 v1 h1 l1 6 (tB O K by_)) = 0))))) w) (by kernel_rfl) (by rw [decide_eq_false (t_turn v0 h0 l0 v1 h1 l1 f g 16 d c2 O hO.symm K hKl by_ hb c1)]; rfl)) ?_
            refine pl_val (want_no rfl) (some 117) rfl (.bool true) (fun _ => by kernel_rfl) ?_
            refine pl_val (want_on 2 true rfl 117 rfl (by kernel_rfl)) (some 118) rfl (.int .i64 (dE v0 h0 l0 v1 h1 l1 17 (tB U m by_))) (fun _ => by kernel_rfl) ?_
            by_cases c5 : (dE v0 h0 l0 v1 h1 l1 17 (tB U m by_)) = 0
            · skip
              refine pl_val (want_on 2 true rfl 117 rfl (by kernel_rfl)) (some 119) rfl (.bool false) (fun w => Eq.trans (b := .ok (.value (.bool (!(decide ((dE v0 h0 l0 v1 h1 l1 17 (tB U m by_)) = 0))))) w) (by kernel_rfl) (by rw [decide_eq_true (c5)]; rfl)) ?_
              refine pl_val (want_on 2 true rfl 117 rfl (by kernel_rfl)) (some 120) rfl (.bool false) (fun _ => by kernel_rfl) ?_
              refine pl_val (want_on 5 false rfl 120 rfl (by kernel_rfl)) (some 121) rfl (.bool true) (fun _ => by kernel_rfl) ?_
              refine pl_val (want_on 5 false rfl 120 rfl (by kernel_rfl)) (some 122) rfl (.bool true) (fun _ => by kernel_rfl) ?_
              refine pl_val (want_on 7 true rfl 122 rfl (by kernel_rfl)) (some 123) rfl (.pointer (some ⟨g6, 0, none⟩)) (fun _ => by kernel_rfl) ?_
              refine pl_val (want_on 7 true rfl 122 rfl (by kernel_rfl)) (some 124) rfl (.pointer (some ⟨g6, 0, none⟩)) (fun _ => by kernel_rfl) ?_
              rcases Bool.eq_false_or_eq_true (v0) with c6 | c6
              · exact absurd (c6.symm.trans (u_gone v0 h0 l0 v1 h1 l1 f g _ d (u_fits c2) U hU.symm m hml by_ hb c1 c5).1) (by decide)
              · skip
                refine pl_cell M (want_on 7 true rfl 122 rfl (by kernel_rfl)) (some 125) rfl 4 _ rfl g6 0 (by kernel_rfl) (.bool false) (fun _ => by kernel_rfl) (fun w M => M.cell 5 rfl (by decide) (congrArg Value.bool c6)) ?_
                refine pl_val (want_on 7 true rfl 122 rfl (by kernel_rfl)) (some 126) rfl (.bool true) (fun _ => by kernel_rfl) ?_
                refine pl_val (want_on 5 false rfl 120 rfl (by kernel_rfl)) (some 127) rfl (.bool true) (fun _ => by kernel_rfl) ?_
                refine pl_val (want_on 2 true rfl 117 rfl (by kernel_rfl)) (some 128) rfl (.bool true) (fun _ => by kernel_rfl) ?_
                refine pl_val (want_no rfl) (some 129) rfl (.bool true) (fun _ => by kernel_rfl) ?_
                refine pl_val (want_no rfl) (some 130) rfl (.bool true) (fun _ => by kernel_rfl) ?_
                refine pl_call M (want_on 15 true rfl 130 rfl (by kernel_rfl)) (some 131) rfl 7 #[] (.bool true) (fun _ => by kernel_rfl) (fun w M => c_works w M.laid) ?_
                intro u21 M
                refine pl_val (want_no rfl) (some 132) rfl (.bool true) (fun _ => by kernel_rfl) ?_
                refine pl_val (want_no rfl) (some 10) rfl (.bool true) (fun _ => by kernel_rfl) ?_
                refine pl_nil ?_
                refine au_then ?_
                refine wp_ret ?_
                exact bodyPost_ret (v := .bool true) (results_tmp1 Try.results6 _ _ _ (by kernel_rfl)) (by kernel_rfl) ⟨rfl, below_grown M.old⟩
            · skip
              refine pl_val (want_on 2 true rfl 117 rfl (by kernel_rfl)) (some 119) rfl (.bool true) (fun w => Eq.trans (b := .ok (.value (.bool (!(decide ((dE v0 h0 l0 v1 h1 l1 17 (tB U m by_)) = 0))))) w) (by kernel_rfl) (by rw [decide_eq_false (c5)]; rfl)) ?_
              refine pl_val (want_on 2 true rfl 117 rfl (by kernel_rfl)) (some 120) rfl (.bool true) (fun _ => by kernel_rfl) ?_
              refine pl_skip (want_off 5 false rfl 120 rfl (by kernel_rfl)) (some 121) rfl ?_
              refine pl_skip (want_off 5 false rfl 120 rfl (by kernel_rfl)) (some 122) rfl ?_
              refine pl_skip (want_und 7 true rfl 122 rfl (by kernel_rfl)) (some 123) rfl ?_
              refine pl_skip (want_und 7 true rfl 122 rfl (by kernel_rfl)) (some 124) rfl ?_
              refine pl_skip (want_und 7 true rfl 122 rfl (by kernel_rfl)) (some 125) rfl ?_
              refine pl_skip (want_und 7 true rfl 122 rfl (by kernel_rfl)) (some 126) rfl ?_
              refine pl_skip (want_off 5 false rfl 120 rfl (by kernel_rfl)) (some 127) rfl ?_
              refine pl_val (want_on 2 true rfl 117 rfl (by kernel_rfl)) (some 128) rfl (.bool true) (fun _ => by kernel_rfl) ?_
              refine pl_val (want_no rfl) (some 129) rfl (.bool true) (fun _ => by kernel_rfl) ?_
              refine pl_val (want_no rfl) (some 130) rfl (.bool true) (fun _ => by kernel_rfl) ?_
              refine pl_call M (want_on 15 true rfl 130 rfl (by kernel_rfl)) (some 131) rfl 7 #[] (.bool true) (fun _ => by kernel_rfl) (fun w M => c_works w M.laid) ?_
              intro u21 M
              refine pl_val (want_no rfl) (some 132) rfl (.bool true) (fun _ => by kernel_rfl) ?_
              refine pl_val (want_no rfl) (some 10) rfl (.bool true) (fun _ => by kernel_rfl) ?_
              refine pl_nil ?_
              refine au_then ?_
              refine wp_ret ?_
              exact bodyPost_ret (v := .bool true) (results_tmp1 Try.results6 _ _ _ (by kernel_rfl)) (by kernel_rfl) ⟨rfl, below_grown M.old⟩
          · skip
            refine pl_val (want_on 4 true rfl 101 rfl (by kernel_rfl)) (some 105) rfl (.bool false) (fun w => Eq.trans (b := .ok (.value (.bool (decide ((bt (tB U m by_) 7) = 0)))) w) (by kernel_rfl) (by rw [decide_eq_false (c4)])) ?_
            refine pl_val (want_no rfl) (some 106) rfl (.bool false) (fun _ => by kernel_rfl) ?_
            refine pl_val (want_no rfl) (some 21) rfl (.bool false) (fun _ => by kernel_rfl) ?_
            refine pl_nil ?_
            refine au_then ?_
            refine wp_seq ?_
            refine rg_lit ?_
            refine pl_val (want_no rfl) (some 107) rfl (.slice (some ⟨g7, 0, none⟩) U.size cap2) (fun _ => by kernel_rfl) ?_
            refine pl_back M (want_no rfl) (some 108) rfl _ rfl 6 g7 U.size cap2 (by kernel_rfl) _ rfl ((sb U).set m (xb (bt U m) by_)) cap2 hZB (by rw [List.length_set, sb_length]) (fun y hy => by rw [← tB_sb] at hy; exact sb_nn _ y hy) ?_
            refine pl_val (want_no rfl) (some 109) rfl (.pointer (some ⟨g6, 8, none⟩)) (fun _ => by kernel_rfl) ?_
            refine pl_put1 M (want_no rfl) rfl 9 _ _ rfl 5 g6 8 (by kernel_rfl) 9 26 (ls [.bool (v0), .int .u64 h0, .int .u64 l0, .bool (v1), .int .u64 h1, .int .u64 l1, .int .u8 17, .int .u8 64, .string U]) rfl (.string (tB U m by_)) (ls [.bool (v0), .int .u64 h0, .int .u64 l0, .bool (v1), .int .u64 h1, .int .u64 l1, .int .u8 17, .int .u8 64, .string (tB U m by_)]) (by kernel_rfl) inz9 (by decide) rfl rfl (put_ls _ 8 _ _ rfl) ?_
            intro u17 M
            replace M : Mem ⟨w, []⟩ [⟨g1, .cells (av 4 (ls [.bool (v0), .int .u64 h0, .int .u64 l0, .int .u16 f])) 40⟩, ⟨g2, .cells (av 4 (ls [.bool (v1), .int .u64 h1, .int .u64 l1, .int .u16 g])) 40⟩, ⟨g3, .cells (av 9 (ls [.bool (v0), .int .u64 h0, .int .u64 l0, .bool (v1), .int .u64 h1, .int .u64 l1, .int .u8 6, .int .u8 64, .string (tB O K by_)])) 26⟩, ⟨g4, ZA⟩, ⟨g5, .cells (av 13 (ls [.int .u8 (zI (dE v0 h0 l0 v1 h1 l1 6 (tB O K by_)) 6), .bool (zB (dE v0 h0 l0 v1 h1 l1 6 (tB O K by_)) v0), .int .u64 (zI (dE v0 h0 l0 v1 h1 l1 6 (tB O K by_)) h0), .int .u64 (zI (dE v0 h0 l0 v1 h1 l1 6 (tB O K by_)) l0), .bool (zB (dE v0 h0 l0 v1 h1 l1 6 (tB O K by_)) v1), .int .u64 (zI (dE v0 h0 l0 v1 h1 l1 6 (tB O K by_)) h1), .int .u64 (zI (dE v0 h0 l0 v1 h1 l1 6 (tB O K by_)) l1), .int .u16 (zI (dE v0 h0 l0 v1 h1 l1 6 (tB O K by_)) (hFr 6 (tB O K by_))), .int .u16 (zI (dE v0 h0 l0 v1 h1 l1 6 (tB O K by_)) (hTo 6 (tB O K by_))), .int .u8 (zI (dE v0 h0 l0 v1 h1 l1 6 (tB O K by_)) (hFl 6 (tB O K by_))), .int .u8 (zI (dE v0 h0 l0 v1 h1 l1 6 (tB O K by_)) (hKi 6 (tB O K by_))), .int .u8 (zI (dE v0 h0 l0 v1 h1 l1 6 (tB O K by_)) (hCo 6 (tB O K by_))), .int .i64 (zI (dE v0 h0 l0 v1 h1 l1 6 (tB O K by_)) (hSz 6 (tB O K by_)))])) 32⟩, ⟨g6, .cells (av 9 (ls [.bool (v0), .int .u64 h0, .int .u64 l0, .bool (v1), .int .u64 h1, .int .u64 l1, .int .u8 17, .int .u8 64, .string (tB U m by_)])) 26⟩, ⟨g7, ZB⟩] u17 := M
            refine pl_nil ?_
            refine au_then ?_
            refine wp_seq ?_
            refine rg_lit ?_
            refine pl_load M (want_no rfl) (some 111) rfl 26 _ rfl 5 g6 0 (by kernel_rfl) 9 26 (ls [.bool (v0), .int .u64 h0, .int .u64 l0, .bool (v1), .int .u64 h1, .int .u64 l1, .int .u8 17, .int .u8 64, .string (tB U m by_)]) rfl 9 (ls [.bool (v0), .int .u64 h0, .int .u64 l0, .bool (v1), .int .u64 h1, .int .u64 l1, .int .u8 17, .int .u8 64, .string (tB U m by_)]) (fun j _ => by rw [Nat.zero_add]) (by decide) _ Try.underlying26 rfl inz26 ?_
            refine pl_call M (want_no rfl) (some 112) rfl 8 #[.agg (av 9 (ls [.bool (v0), .int .u64 h0, .int .u64 l0, .bool (v1), .int .u64 h1, .int .u64 l1, .int .u8 17, .int .u8 64, .string (tB U m by_)]))] (.tuple #[.agg (av 13 (ls [.int .u8 (zI (dE v0 h0 l0 v1 h1 l1 17 (tB U m by_)) 17), .bool (zB (dE v0 h0 l0 v1 h1 l1 17 (tB U m by_)) v0), .int .u64 (zI (dE v0 h0 l0 v1 h1 l1 17 (tB U m by_)) h0), .int .u64 (zI (dE v0 h0 l0 v1 h1 l1 17 (tB U m by_)) l0), .bool (zB (dE v0 h0 l0 v1 h1 l1 17 (tB U m by_)) v1), .int .u64 (zI (dE v0 h0 l0 v1 h1 l1 17 (tB U m by_)) h1), .int .u64 (zI (dE v0 h0 l0 v1 h1 l1 17 (tB U m by_)) l1), .int .u16 (zI (dE v0 h0 l0 v1 h1 l1 17 (tB U m by_)) (hFr 17 (tB U m by_))), .int .u16 (zI (dE v0 h0 l0 v1 h1 l1 17 (tB U m by_)) (hTo 17 (tB U m by_))), .int .u8 (zI (dE v0 h0 l0 v1 h1 l1 17 (tB U m by_)) (hFl 17 (tB U m by_))), .int .u8 (zI (dE v0 h0 l0 v1 h1 l1 17 (tB U m by_)) (hKi 17 (tB U m by_))), .int .u8 (zI (dE v0 h0 l0 v1 h1 l1 17 (tB U m by_)) (hCo 17 (tB U m by_))), .int .i64 (zI (dE v0 h0 l0 v1 h1 l1 17 (tB U m by_)) (hSz 17 (tB U m by_)))])), .int .i64 (dE v0 h0 l0 v1 h1 l1 17 (tB U m by_))]) (fun _ => by kernel_rfl) (fun w M => c_Decode v0 h0 l0 v1 h1 l1 17 64 (tB U m by_) (by rw [tB_size]; omega) (by decide) w M.laid) ?_
            intro u18 M
            refine pl_val (want_no rfl) (some 110) rfl (.tuple #[.agg (av 13 (ls [.int .u8 (zI (dE v0 h0 l0 v1 h1 l1 17 (tB U m by_)) 17), .bool (zB (dE v0 h0 l0 v1 h1 l1 17 (tB U m by_)) v0), .int .u64 (zI (dE v0 h0 l0 v1 h1 l1 17 (tB U m by_)) h0), .int .u64 (zI (dE v0 h0 l0 v1 h1 l1 17 (tB U m by_)) l0), .bool (zB (dE v0 h0 l0 v1 h1 l1 17 (tB U m by_)) v1), .int .u64 (zI (dE v0 h0 l0 v1 h1 l1 17 (tB U m by_)) h1), .int .u64 (zI (dE v0 h0 l0 v1 h1 l1 17 (tB U m by_)) l1), .int .u16 (zI (dE v0 h0 l0 v1 h1 l1 17 (tB U m by_)) (hFr 17 (tB U m by_))), .int .u16 (zI (dE v0 h0 l0 v1 h1 l1 17 (tB U m by_)) (hTo 17 (tB U m by_))), .int .u8 (zI (dE v0 h0 l0 v1 h1 l1 17 (tB U m by_)) (hFl 17 (tB U m by_))), .int .u8 (zI (dE v0 h0 l0 v1 h1 l1 17 (tB U m by_)) (hKi 17 (tB U m by_))), .int .u8 (zI (dE v0 h0 l0 v1 h1 l1 17 (tB U m by_)) (hCo 17 (tB U m by_))), .int .i64 (zI (dE v0 h0 l0 v1 h1 l1 17 (tB U m by_)) (hSz 17 (tB U m by_)))])), .int .i64 (dE v0 h0 l0 v1 h1 l1 17 (tB U m by_))]) (fun _ => by kernel_rfl) ?_
            refine pl_val (want_no rfl) (some 113) rfl (.agg (av 13 (ls [.int .u8 (zI (dE v0 h0 l0 v1 h1 l1 17 (tB U m by_)) 17), .bool (zB (dE v0 h0 l0 v1 h1 l1 17 (tB U m by_)) v0), .int .u64 (zI (dE v0 h0 l0 v1 h1 l1 17 (tB U m by_)) h0), .int .u64 (zI (dE v0 h0 l0 v1 h1 l1 17 (tB U m by_)) l0), .bool (zB (dE v0 h0 l0 v1 h1 l1 17 (tB U m by_)) v1), .int .u64 (zI (dE v0 h0 l0 v1 h1 l1 17 (tB U m by_)) h1), .int .u64 (zI (dE v0 h0 l0 v1 h1 l1 17 (tB U m by_)) l1), .int .u16 (zI (dE v0 h0 l0 v1 h1 l1 17 (tB U m by_)) (hFr 17 (tB U m by_))), .int .u16 (zI (dE v0 h0 l0 v1 h1 l1 17 (tB U m by_)) (hTo 17 (tB U m by_))), .int .u8 (zI (dE v0 h0 l0 v1 h1 l1 17 (tB U m by_)) (hFl 17 (tB U m by_))), .int .u8 (zI (dE v0 h0 l0 v1 h1 l1 17 (tB U m by_)) (hKi 17 (tB U m by_))), .int .u8 (zI (dE v0 h0 l0 v1 h1 l1 17 (tB U m by_)) (hCo 17 (tB U m by_))), .int .i64 (zI (dE v0 h0 l0 v1 h1 l1 17 (tB U m by_)) (hSz 17 (tB U m by_)))]))) (fun _ => by kernel_rfl) ?_
            refine pl_val (want_no rfl) (some 114) rfl (.int .i64 (dE v0 h0 l0 v1 h1 l1 17 (tB U m by_))) (fun _ => by kernel_rfl) ?_
            refine pl_new M (want_no rfl) (some 22) rfl (.cells (av 13 (ls [.int .u8 0, .bool false, .int .u64 0, .int .u64 0, .bool false, .int .u64 0, .int .u64 0, .int .u16 0, .int .u16 0, .int .u8 0, .int .u8 0, .int .u8 0, .int .i64 0])) 32) (fun _ => by kernel_rfl) ?_
            intro g8 u19 M
            replace M : Mem ⟨w, []⟩ [⟨g1, .cells (av 4 (ls [.bool (v0), .int .u64 h0, .int .u64 l0, .int .u16 f])) 40⟩, ⟨g2, .cells (av 4 (ls [.bool (v1), .int .u64 h1, .int .u64 l1, .int .u16 g])) 40⟩, ⟨g3, .cells (av 9 (ls [.bool (v0), .int .u64 h0, .int .u64 l0, .bool (v1), .int .u64 h1, .int .u64 l1, .int .u8 6, .int .u8 64, .string (tB O K by_)])) 26⟩, ⟨g4, ZA⟩, ⟨g5, .cells (av 13 (ls [.int .u8 (zI (dE v0 h0 l0 v1 h1 l1 6 (tB O K by_)) 6), .bool (zB (dE v0 h0 l0 v1 h1 l1 6 (tB O K by_)) v0), .int .u64 (zI (dE v0 h0 l0 v1 h1 l1 6 (tB O K by_)) h0), .int .u64 (zI (dE v0 h0 l0 v1 h1 l1 6 (tB O K by_)) l0), .bool (zB (dE v0 h0 l0 v1 h1 l1 6 (tB O K by_)) v1), .int .u64 (zI (dE v0 h0 l0 v1 h1 l1 6 (tB O K by_)) h1), .int .u64 (zI (dE v0 h0 l0 v1 h1 l1 6 (tB O K by_)) l1), .int .u16 (zI (dE v0 h0 l0 v1 h1 l1 6 (tB O K by_)) (hFr 6 (tB O K by_))), .int .u16 (zI (dE v0 h0 l0 v1 h1 l1 6 (tB O K by_)) (hTo 6 (tB O K by_))), .int .u8 (zI (dE v0 h0 l0 v1 h1 l1 6 (tB O K by_)) (hFl 6 (tB O K by_))), .int .u8 (zI (dE v0 h0 l0 v1 h1 l1 6 (tB O K by_)) (hKi 6 (tB O K by_))), .int .u8 (zI (dE v0 h0 l0 v1 h1 l1 6 (tB O K by_)) (hCo 6 (tB O K by_))), .int .i64 (zI (dE v0 h0 l0 v1 h1 l1 6 (tB O K by_)) (hSz 6 (tB O K by_)))])) 32⟩, ⟨g6, .cells (av 9 (ls [.bool (v0), .int .u64 h0, .int .u64 l0, .bool (v1), .int .u64 h1, .int .u64 l1, .int .u8 17, .int .u8 64, .string (tB U m by_)])) 26⟩, ⟨g7, ZB⟩, ⟨g8, .cells (av 13 (ls [.int .u8 0, .bool false, .int .u64 0, .int .u64 0, .bool false, .int .u64 0, .int .u64 0, .int .u16 0, .int .u16 0, .int .u8 0, .int .u8 0, .int .u8 0, .int .i64 0])) 32⟩] u19 := M
            refine pl_put M (want_no rfl) rfl 32 _ _ rfl 7 g8 0 (by kernel_rfl) 13 32 (ls [.int .u8 0, .bool false, .int .u64 0, .int .u64 0, .bool false, .int .u64 0, .int .u64 0, .int .u16 0, .int .u16 0, .int .u8 0, .int .u8 0, .int .u8 0, .int .i64 0]) rfl 13 (ls [.int .u8 (zI (dE v0 h0 l0 v1 h1 l1 17 (tB U m by_)) 17), .bool (zB (dE v0 h0 l0 v1 h1 l1 17 (tB U m by_)) v0), .int .u64 (zI (dE v0 h0 l0 v1 h1 l1 17 (tB U m by_)) h0), .int .u64 (zI (dE v0 h0 l0 v1 h1 l1 17 (tB U m by_)) l0), .bool (zB (dE v0 h0 l0 v1 h1 l1 17 (tB U m by_)) v1), .int .u64 (zI (dE v0 h0 l0 v1 h1 l1 17 (tB U m by_)) h1), .int .u64 (zI (dE v0 h0 l0 v1 h1 l1 17 (tB U m by_)) l1), .int .u16 (zI (dE v0 h0 l0 v1 h1 l1 17 (tB U m by_)) (hFr 17 (tB U m by_))), .int .u16 (zI (dE v0 h0 l0 v1 h1 l1 17 (tB U m by_)) (hTo 17 (tB U m by_))), .int .u8 (zI (dE v0 h0 l0 v1 h1 l1 17 (tB U m by_)) (hFl 17 (tB U m by_))), .int .u8 (zI (dE v0 h0 l0 v1 h1 l1 17 (tB U m by_)) (hKi 17 (tB U m by_))), .int .u8 (zI (dE v0 h0 l0 v1 h1 l1 17 (tB U m by_)) (hCo 17 (tB U m by_))), .int .i64 (zI (dE v0 h0 l0 v1 h1 l1 17 (tB U m by_)) (hSz 17 (tB U m by_)))]) (ls [.int .u8 (zI (dE v0 h0 l0 v1 h1 l1 17 (tB U m by_)) 17), .bool (zB (dE v0 h0 l0 v1 h1 l1 17 (tB U m by_)) v0), .int .u64 (zI (dE v0 h0 l0 v1 h1 l1 17 (tB U m by_)) h0), .int .u64 (zI (dE v0 h0 l0 v1 h1 l1 17 (tB U m by_)) l0), .bool (zB (dE v0 h0 l0 v1 h1 l1 17 (tB U m by_)) v1), .int .u64 (zI (dE v0 h0 l0 v1 h1 l1 17 (tB U m by_)) h1), .int .u64 (zI (dE v0 h0 l0 v1 h1 l1 17 (tB U m by_)) l1), .int .u16 (zI (dE v0 h0 l0 v1 h1 l1 17 (tB U m by_)) (hFr 17 (tB U m by_))), .int .u16 (zI (dE v0 h0 l0 v1 h1 l1 17 (tB U m by_)) (hTo 17 (tB U m by_))), .int .u8 (zI (dE v0 h0 l0 v1 h1 l1 17 (tB U m by_)) (hFl 17 (tB U m by_))), .int .u8 (zI (dE v0 h0 l0 v1 h1 l1 17 (tB U m by_)) (hKi 17 (tB U m by_))), .int .u8 (zI (dE v0 h0 l0 v1 h1 l1 17 (tB U m by_)) (hCo 17 (tB U m by_))), .int .i64 (zI (dE v0 h0 l0 v1 h1 l1 17 (tB U m by_)) (hSz 17 (tB U m by_)))]) (by kernel_rfl) inz32 (by decide) (one_ls _ rfl) (fun j hj => by rw [if_pos (by omega), Nat.sub_zero]) ?_
            intro u20 M
            replace M : Mem ⟨w, []⟩ [⟨g1, .cells (av 4 (ls [.bool (v0), .int .u64 h0, .int .u64 l0, .int .u16 f])) 40⟩, ⟨g2, .cells (av 4 (ls [.bool (v1), .int .u64 h1, .int .u64 l1, .int .u16 g])) 40⟩, ⟨g3, .cells (av 9 (ls [.bool (v0), .int .u64 h0, .int .u64 l0, .bool (v1), .int .u64 h1, .int .u64 l1, .int .u8 6, .int .u8 64, .string (tB O K by_)])) 26⟩, ⟨g4, ZA⟩, ⟨g5, .cells (av 13 (ls [.int .u8 (zI (dE v0 h0 l0 v1 h1 l1 6 (tB O K by_)) 6), .bool (zB (dE v0 h0 l0 v1 h1 l1 6 (tB O K by_)) v0), .int .u64 (zI (dE v0 h0 l0 v1 h1 l1 6 (tB O K by_)) h0), .int .u64 (zI (dE v0 h0 l0 v1 h1 l1 6 (tB O K by_)) l0), .bool (zB (dE v0 h0 l0 v1 h1 l1 6 (tB O K by_)) v1), .int .u64 (zI (dE v0 h0 l0 v1 h1 l1 6 (tB O K by_)) h1), .int .u64 (zI (dE v0 h0 l0 v1 h1 l1 6 (tB O K by_)) l1), .int .u16 (zI (dE v0 h0 l0 v1 h1 l1 6 (tB O K by_)) (hFr 6 (tB O K by_))), .int .u16 (zI (dE v0 h0 l0 v1 h1 l1 6 (tB O K by_)) (hTo 6 (tB O K by_))), .int .u8 (zI (dE v0 h0 l0 v1 h1 l1 6 (tB O K by_)) (hFl 6 (tB O K by_))), .int .u8 (zI (dE v0 h0 l0 v1 h1 l1 6 (tB O K by_)) (hKi 6 (tB O K by_))), .int .u8 (zI (dE v0 h0 l0 v1 h1 l1 6 (tB O K by_)) (hCo 6 (tB O K by_))), .int .i64 (zI (dE v0 h0 l0 v1 h1 l1 6 (tB O K by_)) (hSz 6 (tB O K by_)))])) 32⟩, ⟨g6, .cells (av 9 (ls [.bool (v0), .int .u64 h0, .int .u64 l0, .bool (v1), .int .u64 h1, .int .u64 l1, .int .u8 17, .int .u8 64, .string (tB U m by_)])) 26⟩, ⟨g7, ZB⟩, ⟨g8, .cells (av 13 (ls [.int .u8 (zI (dE v0 h0 l0 v1 h1 l1 17 (tB U m by_)) 17), .bool (zB (dE v0 h0 l0 v1 h1 l1 17 (tB U m by_)) v0), .int .u64 (zI (dE v0 h0 l0 v1 h1 l1 17 (tB U m by_)) h0), .int .u64 (zI (dE v0 h0 l0 v1 h1 l1 17 (tB U m by_)) l0), .bool (zB (dE v0 h0 l0 v1 h1 l1 17 (tB U m by_)) v1), .int .u64 (zI (dE v0 h0 l0 v1 h1 l1 17 (tB U m by_)) h1), .int .u64 (zI (dE v0 h0 l0 v1 h1 l1 17 (tB U m by_)) l1), .int .u16 (zI (dE v0 h0 l0 v1 h1 l1 17 (tB U m by_)) (hFr 17 (tB U m by_))), .int .u16 (zI (dE v0 h0 l0 v1 h1 l1 17 (tB U m by_)) (hTo 17 (tB U m by_))), .int .u8 (zI (dE v0 h0 l0 v1 h1 l1 17 (tB U m by_)) (hFl 17 (tB U m by_))), .int .u8 (zI (dE v0 h0 l0 v1 h1 l1 17 (tB U m by_)) (hKi 17 (tB U m by_))), .int .u8 (zI (dE v0 h0 l0 v1 h1 l1 17 (tB U m by_)) (hCo 17 (tB U m by_))), .int .i64 (zI (dE v0 h0 l0 v1 h1 l1 17 (tB U m by_)) (hSz 17 (tB U m by_)))])) 32⟩] u20 := M
            refine pl_val (want_no rfl) (some 23) rfl (.int .i64 (dE v0 h0 l0 v1 h1 l1 17 (tB U m by_))) (fun _ => by kernel_rfl) ?_
            refine pl_nil ?_
            refine au_then ?_
            refine wp_seq ?_
            refine rg_lit ?_
            refine pl_val (want_no rfl) (some 115) rfl (.int .i64 (dE v0 h0 l0 v1 h1 l1 6 (tB O K by_))) (fun _ => by kernel_rfl) ?_
            refine pl_val (want_no rfl) (some 116) rfl (.bool true) (fun w => Eq.trans (b := .ok (.value (.bool (!(decide ((dE v0 h0 l0 v1 h1 l1 6 (tB O K by_)) = 0))))) w) (by kernel_rfl) (by rw [decide_eq_false (t_turn v0 h0 l0 v1 h1 l1 f g 16 d c2 O hO.symm K hKl by_ hb c1)]; rfl)) ?_
            refine pl_val (want_no rfl) (some 117) rfl (.bool true) (fun _ => by kernel_rfl) ?_
            refine pl_val (want_on 2 true rfl 117 rfl (by kernel_rfl)) (some 118) rfl (.int .i64 (dE v0 h0 l0 v1 h1 l1 17 (tB U m by_))) (fun _ => by kernel_rfl) ?_
            by_cases c5 : (dE v0 h0 l0 v1 h1 l1 17 (tB U m by_)) = 0
            · exact absurd (u_gone v0 h0 l0 v1 h1 l1 f g _ d (u_fits c2) U hU.symm m hml by_ hb c1 c5).2.2 c4
            · skip
              refine pl_val (want_on 2 true rfl 117 rfl (by kernel_rfl)) (some 119) rfl (.bool true) (fun w => Eq.trans (b := .ok (.value (.bool (!(decide ((dE v0 h0 l0 v1 h1 l1 17 (tB U m by_)) = 0))))) w) (by kernel_rfl) (by rw [decide_eq_false (c5)]; rfl)) ?_
              refine pl_val (want_on 2 true rfl 117 rfl (by kernel_rfl)) (some 120) rfl (.bool true) (fun _ => by kernel_rfl) ?_
              refine pl_skip (want_off 5 false rfl 120 rfl (by kernel_rfl)) (some 121) rfl ?_
              refine pl_skip (want_off 5 false rfl 120 rfl (by kernel_rfl)) (some 122) rfl ?_
              refine pl_skip (want_und 7 true rfl 122 rfl (by kernel_rfl)) (some 123) rfl ?_
              refine pl_skip (want_und 7 true rfl 122 rfl (by kernel_rfl)) (some 124) rfl ?_
              refine pl_skip (want_und 7 true rfl 122 rfl (by kernel_rfl)) (some 125) rfl ?_
              refine pl_skip (want_und 7 true rfl 122 rfl (by kernel_rfl)) (some 126) rfl ?_
              refine pl_skip (want_off 5 false rfl 120 rfl (by kernel_rfl)) (some 127) rfl ?_
              refine pl_val (want_on 2 true rfl 117 rfl (by kernel_rfl)) (some 128) rfl (.bool true) (fun _ => by kernel_rfl) ?_
              refine pl_val (want_no rfl) (some 129) rfl (.bool true) (fun _ => by kernel_rfl) ?_
              refine pl_val (want_no rfl) (some 130) rfl (.bool true) (fun _ => by kernel_rfl) ?_
              refine pl_call M (want_on 15 true rfl 130 rfl (by kernel_rfl)) (some 131) rfl 7 #[] (.bool true) (fun _ => by kernel_rfl) (fun w M => c_works w M.laid) ?_
              intro u21 M
              refine pl_val (want_no rfl) (some 132) rfl (.bool true) (fun _ => by kernel_rfl) ?_
              refine pl_val (want_no rfl) (some 10) rfl (.bool true) (fun _ => by kernel_rfl) ?_
              refine pl_nil ?_
              refine au_then ?_
              refine wp_ret ?_
              exact bodyPost_ret (v := .bool true) (results_tmp1 Try.results6 _ _ _ (by kernel_rfl)) (by kernel_rfl) ⟨rfl, below_grown M.old⟩
        · skip
          refine pl_val (want_no rfl) (some 100) rfl (.bool false) (fun w => Eq.trans (b := .ok (.value (.bool (decide ((bt (tB U m by_) 6) = 0)))) w) (by kernel_rfl) (by rw [decide_eq_false (c3)])) ?_
          refine pl_val (want_no rfl) (some 101) rfl (.bool false) (fun _ => by kernel_rfl) ?_
          refine pl_skip (want_off 4 true rfl 101 rfl (by kernel_rfl)) (some 102) rfl ?_
          refine pl_skip (want_off 4 true rfl 101 rfl (by kernel_rfl)) (some 103) rfl ?_
          refine pl_skip (want_off 4 true rfl 101 rfl (by kernel_rfl)) (some 104) rfl ?_
          refine pl_skip (want_off 4 true rfl 101 rfl (by kernel_rfl)) (some 105) rfl ?_
          refine pl_val (want_no rfl) (some 106) rfl (.bool false) (fun _ => by kernel_rfl) ?_
          refine pl_val (want_no rfl) (some 21) rfl (.bool false) (fun _ => by kernel_rfl) ?_
          refine pl_nil ?_
          refine au_then ?_
          refine wp_seq ?_
          refine rg_lit ?_
          refine pl_val (want_no rfl) (some 107) rfl (.slice (some ⟨g7, 0, none⟩) U.size cap2) (fun _ => by kernel_rfl) ?_
          refine pl_back M (want_no rfl) (some 108) rfl _ rfl 6 g7 U.size cap2 (by kernel_rfl) _ rfl ((sb U).set m (xb (bt U m) by_)) cap2 hZB (by rw [List.length_set, sb_length]) (fun y hy => by rw [← tB_sb] at hy; exact sb_nn _ y hy) ?_
          refine pl_val (want_no rfl) (some 109) rfl (.pointer (some ⟨g6, 8, none⟩)) (fun _ => by kernel_rfl) ?_
          refine pl_put1 M (want_no rfl) rfl 9 _ _ rfl 5 g6 8 (by kernel_rfl) 9 26 (ls [.bool (v0), .int .u64 h0, .int .u64 l0, .bool (v1), .int .u64 h1, .int .u64 l1, .int .u8 17, .int .u8 64, .string U]) rfl (.string (tB U m by_)) (ls [.bool (v0), .int .u64 h0, .int .u64 l0, .bool (v1), .int .u64 h1, .int .u64 l1, .int .u8 17, .int .u8 64, .string (tB U m by_)]) (by kernel_rfl) inz9 (by decide) rfl rfl (put_ls _ 8 _ _ rfl) ?_
          intro u17 M
          replace M : Mem ⟨w, []⟩ [⟨g1, .cells (av 4 (ls [.bool (v0), .int .u64 h0, .int .u64 l0, .int .u16 f])) 40⟩, ⟨g2, .cells (av 4 (ls [.bool (v1), .int .u64 h1, .int .u64 l1, .int .u16 g])) 40⟩, ⟨g3, .cells (av 9 (ls [.bool (v0), .int .u64 h0, .int .u64 l0, .bool (v1), .int .u64 h1, .int .u64 l1, .int .u8 6, .int .u8 64, .string (tB O K by_)])) 26⟩, ⟨g4, ZA⟩, ⟨g5, .cells (av 13 (ls [.int .u8 (zI (dE v0 h0 l0 v1 h1 l1 6 (tB O K by_)) 6), .bool (zB (dE v0 h0 l0 v1 h1 l1 6 (tB O K by_)) v0), .int .u64 (zI (dE v0 h0 l0 v1 h1 l1 6 (tB O K by_)) h0), .int .u64 (zI (dE v0 h0 l0 v1 h1 l1 6 (tB O K by_)) l0), .bool (zB (dE v0 h0 l0 v1 h1 l1 6 (tB O K by_)) v1), .int .u64 (zI (dE v0 h0 l0 v1 h1 l1 6 (tB O K by_)) h1), .int .u64 (zI (dE v0 h0 l0 v1 h1 l1 6 (tB O K by_)) l1), .int .u16 (zI (dE v0 h0 l0 v1 h1 l1 6 (tB O K by_)) (hFr 6 (tB O K by_))), .int .u16 (zI (dE v0 h0 l0 v1 h1 l1 6 (tB O K by_)) (hTo 6 (tB O K by_))), .int .u8 (zI (dE v0 h0 l0 v1 h1 l1 6 (tB O K by_)) (hFl 6 (tB O K by_))), .int .u8 (zI (dE v0 h0 l0 v1 h1 l1 6 (tB O K by_)) (hKi 6 (tB O K by_))), .int .u8 (zI (dE v0 h0 l0 v1 h1 l1 6 (tB O K by_)) (hCo 6 (tB O K by_))), .int .i64 (zI (dE v0 h0 l0 v1 h1 l1 6 (tB O K by_)) (hSz 6 (tB O K by_)))])) 32⟩, ⟨g6, .cells (av 9 (ls [.bool (v0), .int .u64 h0, .int .u64 l0, .bool (v1), .int .u64 h1, .int .u64 l1, .int .u8 17, .int .u8 64, .string (tB U m by_)])) 26⟩, ⟨g7, ZB⟩] u17 := M
          refine pl_nil ?_
          refine au_then ?_
          refine wp_seq ?_
          refine rg_lit ?_
          refine pl_load M (want_no rfl) (some 111) rfl 26 _ rfl 5 g6 0 (by kernel_rfl) 9 26 (ls [.bool (v0), .int .u64 h0, .int .u64 l0, .bool (v1), .int .u64 h1, .int .u64 l1, .int .u8 17, .int .u8 64, .string (tB U m by_)]) rfl 9 (ls [.bool (v0), .int .u64 h0, .int .u64 l0, .bool (v1), .int .u64 h1, .int .u64 l1, .int .u8 17, .int .u8 64, .string (tB U m by_)]) (fun j _ => by rw [Nat.zero_add]) (by decide) _ Try.underlying26 rfl inz26 ?_
          refine pl_call M (want_no rfl) (some 112) rfl 8 #[.agg (av 9 (ls [.bool (v0), .int .u64 h0, .int .u64 l0, .bool (v1), .int .u64 h1, .int .u64 l1, .int .u8 17, .int .u8 64, .string (tB U m by_)]))] (.tuple #[.agg (av 13 (ls [.int .u8 (zI (dE v0 h0 l0 v1 h1 l1 17 (tB U m by_)) 17), .bool (zB (dE v0 h0 l0 v1 h1 l1 17 (tB U m by_)) v0), .int .u64 (zI (dE v0 h0 l0 v1 h1 l1 17 (tB U m by_)) h0), .int .u64 (zI (dE v0 h0 l0 v1 h1 l1 17 (tB U m by_)) l0), .bool (zB (dE v0 h0 l0 v1 h1 l1 17 (tB U m by_)) v1), .int .u64 (zI (dE v0 h0 l0 v1 h1 l1 17 (tB U m by_)) h1), .int .u64 (zI (dE v0 h0 l0 v1 h1 l1 17 (tB U m by_)) l1), .int .u16 (zI (dE v0 h0 l0 v1 h1 l1 17 (tB U m by_)) (hFr 17 (tB U m by_))), .int .u16 (zI (dE v0 h0 l0 v1 h1 l1 17 (tB U m by_)) (hTo 17 (tB U m by_))), .int .u8 (zI (dE v0 h0 l0 v1 h1 l1 17 (tB U m by_)) (hFl 17 (tB U m by_))), .int .u8 (zI (dE v0 h0 l0 v1 h1 l1 17 (tB U m by_)) (hKi 17 (tB U m by_))), .int .u8 (zI (dE v0 h0 l0 v1 h1 l1 17 (tB U m by_)) (hCo 17 (tB U m by_))), .int .i64 (zI (dE v0 h0 l0 v1 h1 l1 17 (tB U m by_)) (hSz 17 (tB U m by_)))])), .int .i64 (dE v0 h0 l0 v1 h1 l1 17 (tB U m by_))]) (fun _ => by kernel_rfl) (fun w M => c_Decode v0 h0 l0 v1 h1 l1 17 64 (tB U m by_) (by rw [tB_size]; omega) (by decide) w M.laid) ?_
          intro u18 M
          refine pl_val (want_no rfl) (some 110) rfl (.tuple #[.agg (av 13 (ls [.int .u8 (zI (dE v0 h0 l0 v1 h1 l1 17 (tB U m by_)) 17), .bool (zB (dE v0 h0 l0 v1 h1 l1 17 (tB U m by_)) v0), .int .u64 (zI (dE v0 h0 l0 v1 h1 l1 17 (tB U m by_)) h0), .int .u64 (zI (dE v0 h0 l0 v1 h1 l1 17 (tB U m by_)) l0), .bool (zB (dE v0 h0 l0 v1 h1 l1 17 (tB U m by_)) v1), .int .u64 (zI (dE v0 h0 l0 v1 h1 l1 17 (tB U m by_)) h1), .int .u64 (zI (dE v0 h0 l0 v1 h1 l1 17 (tB U m by_)) l1), .int .u16 (zI (dE v0 h0 l0 v1 h1 l1 17 (tB U m by_)) (hFr 17 (tB U m by_))), .int .u16 (zI (dE v0 h0 l0 v1 h1 l1 17 (tB U m by_)) (hTo 17 (tB U m by_))), .int .u8 (zI (dE v0 h0 l0 v1 h1 l1 17 (tB U m by_)) (hFl 17 (tB U m by_))), .int .u8 (zI (dE v0 h0 l0 v1 h1 l1 17 (tB U m by_)) (hKi 17 (tB U m by_))), .int .u8 (zI (dE v0 h0 l0 v1 h1 l1 17 (tB U m by_)) (hCo 17 (tB U m by_))), .int .i64 (zI (dE v0 h0 l0 v1 h1 l1 17 (tB U m by_)) (hSz 17 (tB U m by_)))])), .int .i64 (dE v0 h0 l0 v1 h1 l1 17 (tB U m by_))]) (fun _ => by kernel_rfl) ?_
          refine pl_val (want_no rfl) (some 113) rfl (.agg (av 13 (ls [.int .u8 (zI (dE v0 h0 l0 v1 h1 l1 17 (tB U m by_)) 17), .bool (zB (dE v0 h0 l0 v1 h1 l1 17 (tB U m by_)) v0), .int .u64 (zI (dE v0 h0 l0 v1 h1 l1 17 (tB U m by_)) h0), .int .u64 (zI (dE v0 h0 l0 v1 h1 l1 17 (tB U m by_)) l0), .bool (zB (dE v0 h0 l0 v1 h1 l1 17 (tB U m by_)) v1), .int .u64 (zI (dE v0 h0 l0 v1 h1 l1 17 (tB U m by_)) h1), .int .u64 (zI (dE v0 h0 l0 v1 h1 l1 17 (tB U m by_)) l1), .int .u16 (zI (dE v0 h0 l0 v1 h1 l1 17 (tB U m by_)) (hFr 17 (tB U m by_))), .int .u16 (zI (dE v0 h0 l0 v1 h1 l1 17 (tB U m by_)) (hTo 17 (tB U m by_))), .int .u8 (zI (dE v0 h0 l0 v1 h1 l1 17 (tB U m by_)) (hFl 17 (tB U m by_))), .int .u8 (zI (dE v0 h0 l0 v1 h1 l1 17 (tB U m by_)) (hKi 17 (tB U m by_))), .int .u8 (zI (dE v0 h0 l0 v1 h1 l1 17 (tB U m by_)) (hCo 17 (tB U m by_))), .int .i64 (zI (dE v0 h0 l0 v1 h1 l1 17 (tB U m by_)) (hSz 17 (tB U m by_)))]))) (fun _ => by kernel_rfl) ?_
          refine pl_val (want_no rfl) (some 114) rfl (.int .i64 (dE v0 h0 l0 v1 h1 l1 17 (tB U m by_))) (fun _ => by kernel_rfl) ?_
          refine pl_new M (want_no rfl) (some 22) rfl (.cells (av 13 (ls [.int .u8 0, .bool false, .int .u64 0, .int .u64 0, .bool false, .int .u64 0, .int .u64 0, .int .u16 0, .int .u16 0, .int .u8 0, .int .u8 0, .int .u8 0, .int .i64 0])) 32) (fun _ => by kernel_rfl) ?_
          intro g8 u19 M
          replace M : Mem ⟨w, []⟩ [⟨g1, .cells (av 4 (ls [.bool (v0), .int .u64 h0, .int .u64 l0, .int .u16 f])) 40⟩, ⟨g2, .cells (av 4 (ls [.bool (v1), .int .u64 h1, .int .u64 l1, .int .u16 g])) 40⟩, ⟨g3, .cells (av 9 (ls [.bool (v0), .int .u64 h0, .int .u64 l0, .bool (v1), .int .u64 h1, .int .u64 l1, .int .u8 6, .int .u8 64, .string (tB O K by_)])) 26⟩, ⟨g4, ZA⟩, ⟨g5, .cells (av 13 (ls [.int .u8 (zI (dE v0 h0 l0 v1 h1 l1 6 (tB O K by_)) 6), .bool (zB (dE v0 h0 l0 v1 h1 l1 6 (tB O K by_)) v0), .int .u64 (zI (dE v0 h0 l0 v1 h1 l1 6 (tB O K by_)) h0), .int .u64 (zI (dE v0 h0 l0 v1 h1 l1 6 (tB O K by_)) l0), .bool (zB (dE v0 h0 l0 v1 h1 l1 6 (tB O K by_)) v1), .int .u64 (zI (dE v0 h0 l0 v1 h1 l1 6 (tB O K by_)) h1), .int .u64 (zI (dE v0 h0 l0 v1 h1 l1 6 (tB O K by_)) l1), .int .u16 (zI (dE v0 h0 l0 v1 h1 l1 6 (tB O K by_)) (hFr 6 (tB O K by_))), .int .u16 (zI (dE v0 h0 l0 v1 h1 l1 6 (tB O K by_)) (hTo 6 (tB O K by_))), .int .u8 (zI (dE v0 h0 l0 v1 h1 l1 6 (tB O K by_)) (hFl 6 (tB O K by_))), .int .u8 (zI (dE v0 h0 l0 v1 h1 l1 6 (tB O K by_)) (hKi 6 (tB O K by_))), .int .u8 (zI (dE v0 h0 l0 v1 h1 l1 6 (tB O K by_)) (hCo 6 (tB O K by_))), .int .i64 (zI (dE v0 h0 l0 v1 h1 l1 6 (tB O K by_)) (hSz 6 (tB O K by_)))])) 32⟩, ⟨g6, .cells (av 9 (ls [.bool (v0), .int .u64 h0, .int .u64 l0, .bool (v1), .int .u64 h1, .int .u64 l1, .int .u8 17, .int .u8 64, .string (tB U m by_)])) 26⟩, ⟨g7, ZB⟩, ⟨g8, .cells (av 13 (ls [.int .u8 0, .bool false, .int .u64 0, .int .u64 0, .bool false, .int .u64 0, .int .u64 0, .int .u16 0, .int .u16 0, .int .u8 0, .int .u8 0, .int .u8 0, .int .i64 0])) 32⟩] u19 := M
          refine pl_put M (want_no rfl) rfl 32 _ _ rfl 7 g8 0 (by kernel_rfl) 13 32 (ls [.int .u8 0, .bool false, .int .u64 0, .int .u64 0, .bool false, .int .u64 0, .int .u64 0, .int .u16 0, .int .u16 0, .int .u8 0, .int .u8 0, .int .u8 0, .int .i64 0]) rfl 13 (ls [.int .u8 (zI (dE v0 h0 l0 v1 h1 l1 17 (tB U m by_)) 17), .bool (zB (dE v0 h0 l0 v1 h1 l1 17 (tB U m by_)) v0), .int .u64 (zI (dE v0 h0 l0 v1 h1 l1 17 (tB U m by_)) h0), .int .u64 (zI (dE v0 h0 l0 v1 h1 l1 17 (tB U m by_)) l0), .bool (zB (dE v0 h0 l0 v1 h1 l1 17 (tB U m by_)) v1), .int .u64 (zI (dE v0 h0 l0 v1 h1 l1 17 (tB U m by_)) h1), .int .u64 (zI (dE v0 h0 l0 v1 h1 l1 17 (tB U m by_)) l1), .int .u16 (zI (dE v0 h0 l0 v1 h1 l1 17 (tB U m by_)) (hFr 17 (tB U m by_))), .int .u16 (zI (dE v0 h0 l0 v1 h1 l1 17 (tB U m by_)) (hTo 17 (tB U m by_))), .int .u8 (zI (dE v0 h0 l0 v1 h1 l1 17 (tB U m by_)) (hFl 17 (tB U m by_))), .int .u8 (zI (dE v0 h0 l0 v1 h1 l1 17 (tB U m by_)) (hKi 17 (tB U m by_))), .int .u8 (zI (dE v0 h0 l0 v1 h1 l1 17 (tB U m by_)) (hCo 17 (tB U m by_))), .int .i64 (zI (dE v0 h0 l0 v1 h1 l1 17 (tB U m by_)) (hSz 17 (tB U m by_)))]) (ls [.int .u8 (zI (dE v0 h0 l0 v1 h1 l1 17 (tB U m by_)) 17), .bool (zB (dE v0 h0 l0 v1 h1 l1 17 (tB U m by_)) v0), .int .u64 (zI (dE v0 h0 l0 v1 h1 l1 17 (tB U m by_)) h0), .int .u64 (zI (dE v0 h0 l0 v1 h1 l1 17 (tB U m by_)) l0), .bool (zB (dE v0 h0 l0 v1 h1 l1 17 (tB U m by_)) v1), .int .u64 (zI (dE v0 h0 l0 v1 h1 l1 17 (tB U m by_)) h1), .int .u64 (zI (dE v0 h0 l0 v1 h1 l1 17 (tB U m by_)) l1), .int .u16 (zI (dE v0 h0 l0 v1 h1 l1 17 (tB U m by_)) (hFr 17 (tB U m by_))), .int .u16 (zI (dE v0 h0 l0 v1 h1 l1 17 (tB U m by_)) (hTo 17 (tB U m by_))), .int .u8 (zI (dE v0 h0 l0 v1 h1 l1 17 (tB U m by_)) (hFl 17 (tB U m by_))), .int .u8 (zI (dE v0 h0 l0 v1 h1 l1 17 (tB U m by_)) (hKi 17 (tB U m by_))), .int .u8 (zI (dE v0 h0 l0 v1 h1 l1 17 (tB U m by_)) (hCo 17 (tB U m by_))), .int .i64 (zI (dE v0 h0 l0 v1 h1 l1 17 (tB U m by_)) (hSz 17 (tB U m by_)))]) (by kernel_rfl) inz32 (by decide) (one_ls _ rfl) (fun j hj => by rw [if_pos (by omega), Nat.sub_zero]) ?_
          intro u20 M
          replace M : Mem ⟨w, []⟩ [⟨g1, .cells (av 4 (ls [.bool (v0), .int .u64 h0, .int .u64 l0, .int .u16 f])) 40⟩, ⟨g2, .cells (av 4 (ls [.bool (v1), .int .u64 h1, .int .u64 l1, .int .u16 g])) 40⟩, ⟨g3, .cells (av 9 (ls [.bool (v0), .int .u64 h0, .int .u64 l0, .bool (v1), .int .u64 h1, .int .u64 l1, .int .u8 6, .int .u8 64, .string (tB O K by_)])) 26⟩, ⟨g4, ZA⟩, ⟨g5, .cells (av 13 (ls [.int .u8 (zI (dE v0 h0 l0 v1 h1 l1 6 (tB O K by_)) 6), .bool (zB (dE v0 h0 l0 v1 h1 l1 6 (tB O K by_)) v0), .int .u64 (zI (dE v0 h0 l0 v1 h1 l1 6 (tB O K by_)) h0), .int .u64 (zI (dE v0 h0 l0 v1 h1 l1 6 (tB O K by_)) l0), .bool (zB (dE v0 h0 l0 v1 h1 l1 6 (tB O K by_)) v1), .int .u64 (zI (dE v0 h0 l0 v1 h1 l1 6 (tB O K by_)) h1), .int .u64 (zI (dE v0 h0 l0 v1 h1 l1 6 (tB O K by_)) l1), .int .u16 (zI (dE v0 h0 l0 v1 h1 l1 6 (tB O K by_)) (hFr 6 (tB O K by_))), .int .u16 (zI (dE v0 h0 l0 v1 h1 l1 6 (tB O K by_)) (hTo 6 (tB O K by_))), .int .u8 (zI (dE v0 h0 l0 v1 h1 l1 6 (tB O K by_)) (hFl 6 (tB O K by_))), .int .u8 (zI (dE v0 h0 l0 v1 h1 l1 6 (tB O K by_)) (hKi 6 (tB O K by_))), .int .u8 (zI (dE v0 h0 l0 v1 h1 l1 6 (tB O K by_)) (hCo 6 (tB O K by_))), .int .i64 (zI (dE v0 h0 l0 v1 h1 l1 6 (tB O K by_)) (hSz 6 (tB O K by_)))])) 32⟩, ⟨g6, .cells (av 9 (ls [.bool (v0), .int .u64 h0, .int .u64 l0, .bool (v1), .int .u64 h1, .int .u64 l1, .int .u8 17, .int .u8 64, .string (tB U m by_)])) 26⟩, ⟨g7, ZB⟩, ⟨g8, .cells (av 13 (ls [.int .u8 (zI (dE v0 h0 l0 v1 h1 l1 17 (tB U m by_)) 17), .bool (zB (dE v0 h0 l0 v1 h1 l1 17 (tB U m by_)) v0), .int .u64 (zI (dE v0 h0 l0 v1 h1 l1 17 (tB U m by_)) h0), .int .u64 (zI (dE v0 h0 l0 v1 h1 l1 17 (tB U m by_)) l0), .bool (zB (dE v0 h0 l0 v1 h1 l1 17 (tB U m by_)) v1), .int .u64 (zI (dE v0 h0 l0 v1 h1 l1 17 (tB U m by_)) h1), .int .u64 (zI (dE v0 h0 l0 v1 h1 l1 17 (tB U m by_)) l1), .int .u16 (zI (dE v0 h0 l0 v1 h1 l1 17 (tB U m by_)) (hFr 17 (tB U m by_))), .int .u16 (zI (dE v0 h0 l0 v1 h1 l1 17 (tB U m by_)) (hTo 17 (tB U m by_))), .int .u8 (zI (dE v0 h0 l0 v1 h1 l1 17 (tB U m by_)) (hFl 17 (tB U m by_))), .int .u8 (zI (dE v0 h0 l0 v1 h1 l1 17 (tB U m by_)) (hKi 17 (tB U m by_))), .int .u8 (zI (dE v0 h0 l0 v1 h1 l1 17 (tB U m by_)) (hCo 17 (tB U m by_))), .int .i64 (zI (dE v0 h0 l0 v1 h1 l1 17 (tB U m by_)) (hSz 17 (tB U m by_)))])) 32⟩] u20 := M
          refine pl_val (want_no rfl) (some 23) rfl (.int .i64 (dE v0 h0 l0 v1 h1 l1 17 (tB U m by_))) (fun _ => by kernel_rfl) ?_
          refine pl_nil ?_
          refine au_then ?_
          refine wp_seq ?_
          refine rg_lit ?_
          refine pl_val (want_no rfl) (some 115) rfl (.int .i64 (dE v0 h0 l0 v1 h1 l1 6 (tB O K by_))) (fun _ => by kernel_rfl) ?_
          refine pl_val (want_no rfl) (some 116) rfl (.bool true) (fun w => Eq.trans (b := .ok (.value (.bool (!(decide ((dE v0 h0 l0 v1 h1 l1 6 (tB O K by_)) = 0))))) w) (by kernel_rfl) (by rw [decide_eq_false (t_turn v0 h0 l0 v1 h1 l1 f g 16 d c2 O hO.symm K hKl by_ hb c1)]; rfl)) ?_
          refine pl_val (want_no rfl) (some 117) rfl (.bool true) (fun _ => by kernel_rfl) ?_
          refine pl_val (want_on 2 true rfl 117 rfl (by kernel_rfl)) (some 118) rfl (.int .i64 (dE v0 h0 l0 v1 h1 l1 17 (tB U m by_))) (fun _ => by kernel_rfl) ?_
          by_cases c4 : (dE v0 h0 l0 v1 h1 l1 17 (tB U m by_)) = 0
          · exact absurd (u_gone v0 h0 l0 v1 h1 l1 f g _ d (u_fits c2) U hU.symm m hml by_ hb c1 c4).2.1 c3
          · skip
            refine pl_val (want_on 2 true rfl 117 rfl (by kernel_rfl)) (some 119) rfl (.bool true) (fun w => Eq.trans (b := .ok (.value (.bool (!(decide ((dE v0 h0 l0 v1 h1 l1 17 (tB U m by_)) = 0))))) w) (by kernel_rfl) (by rw [decide_eq_false (c4)]; rfl)) ?_
            refine pl_val (want_on 2 true rfl 117 rfl (by kernel_rfl)) (some 120) rfl (.bool true) (fun _ => by kernel_rfl) ?_
            refine pl_skip (want_off 5 false rfl 120 rfl (by kernel_rfl)) (some 121) rfl ?_
            refine pl_skip (want_off 5 false rfl 120 rfl (by kernel_rfl)) (some 122) rfl ?_
            refine pl_skip (want_und 7 true rfl 122 rfl (by kernel_rfl)) (some 123) rfl ?_
            refine pl_skip (want_und 7 true rfl 122 rfl (by kernel_rfl)) (some 124) rfl ?_
            refine pl_skip (want_und 7 true rfl 122 rfl (by kernel_rfl)) (some 125) rfl ?_
            refine pl_skip (want_und 7 true rfl 122 rfl (by kernel_rfl)) (some 126) rfl ?_
            refine pl_skip (want_off 5 false rfl 120 rfl (by kernel_rfl)) (some 127) rfl ?_
            refine pl_val (want_on 2 true rfl 117 rfl (by kernel_rfl)) (some 128) rfl (.bool true) (fun _ => by kernel_rfl) ?_
            refine pl_val (want_no rfl) (some 129) rfl (.bool true) (fun _ => by kernel_rfl) ?_
            refine pl_val (want_no rfl) (some 130) rfl (.bool true) (fun _ => by kernel_rfl) ?_
            refine pl_call M (want_on 15 true rfl 130 rfl (by kernel_rfl)) (some 131) rfl 7 #[] (.bool true) (fun _ => by kernel_rfl) (fun w M => c_works w M.laid) ?_
            intro u21 M
            refine pl_val (want_no rfl) (some 132) rfl (.bool true) (fun _ => by kernel_rfl) ?_
            refine pl_val (want_no rfl) (some 10) rfl (.bool true) (fun _ => by kernel_rfl) ?_
            refine pl_nil ?_
            refine au_then ?_
            refine wp_ret ?_
            exact bodyPost_ret (v := .bool true) (results_tmp1 Try.results6 _ _ _ (by kernel_rfl)) (by kernel_rfl) ⟨rfl, below_grown M.old⟩
      · skip
        refine pl_call M (want_no rfl) (some 36) rfl 16 #[.agg (av 4 (ls [.bool (v0), .int .u64 h0, .int .u64 l0, .int .u16 f])), .agg (av 4 (ls [.bool (v1), .int .u64 h1, .int .u64 l1, .int .u16 g])), .int .u8 16, .string d] (.tuple #[.agg (av 9 (ls [.bool false, .int .u64 0, .int .u64 0, .bool false, .int .u64 0, .int .u64 0, .int .u8 0, .int .u8 0, .string ⟨#[]⟩])), .int .i64 (pkE v0 h0 l0 v1 h1 l1 (tcA f g 16) (tcB d))]) (fun _ => by kernel_rfl) (fun w M => call_val (c_Tcp v0 h0 l0 f v1 h1 l1 g 16 d (by omega) (by decide) w M.laid) (by simp only [zI, zB, zS, if_neg c2])) ?_
        intro u3 M
        refine pl_val (want_no rfl) (some 32) rfl (.tuple #[.agg (av 9 (ls [.bool false, .int .u64 0, .int .u64 0, .bool false, .int .u64 0, .int .u64 0, .int .u8 0, .int .u8 0, .string ⟨#[]⟩])), .int .i64 (pkE v0 h0 l0 v1 h1 l1 (tcA f g 16) (tcB d))]) (fun _ => by kernel_rfl) ?_
        refine pl_val (want_no rfl) (some 37) rfl (.agg (av 9 (ls [.bool false, .int .u64 0, .int .u64 0, .bool false, .int .u64 0, .int .u64 0, .int .u8 0, .int .u8 0, .string ⟨#[]⟩]))) (fun _ => by kernel_rfl) ?_
        refine pl_val (want_no rfl) (some 38) rfl (.int .i64 (pkE v0 h0 l0 v1 h1 l1 (tcA f g 16) (tcB d))) (fun _ => by kernel_rfl) ?_
        refine pl_new M (want_no rfl) (some 11) rfl (.cells (av 9 (ls [.bool false, .int .u64 0, .int .u64 0, .bool false, .int .u64 0, .int .u64 0, .int .u8 0, .int .u8 0, .string ⟨#[]⟩])) 26) (fun _ => by kernel_rfl) ?_
        intro g3 u4 M
        replace M : Mem ⟨w, []⟩ [⟨g1, .cells (av 4 (ls [.bool (v0), .int .u64 h0, .int .u64 l0, .int .u16 f])) 40⟩, ⟨g2, .cells (av 4 (ls [.bool (v1), .int .u64 h1, .int .u64 l1, .int .u16 g])) 40⟩, ⟨g3, .cells (av 9 (ls [.bool false, .int .u64 0, .int .u64 0, .bool false, .int .u64 0, .int .u64 0, .int .u8 0, .int .u8 0, .string ⟨#[]⟩])) 26⟩] u4 := M
        refine pl_put M (want_no rfl) rfl 26 _ _ rfl 2 g3 0 (by kernel_rfl) 9 26 (ls [.bool false, .int .u64 0, .int .u64 0, .bool false, .int .u64 0, .int .u64 0, .int .u8 0, .int .u8 0, .string ⟨#[]⟩]) rfl 9 (ls [.bool false, .int .u64 0, .int .u64 0, .bool false, .int .u64 0, .int .u64 0, .int .u8 0, .int .u8 0, .string ⟨#[]⟩]) (ls [.bool false, .int .u64 0, .int .u64 0, .bool false, .int .u64 0, .int .u64 0, .int .u8 0, .int .u8 0, .string ⟨#[]⟩]) (by kernel_rfl) inz26 (by decide) (one_ls _ rfl) (fun j hj => by rw [if_pos (by omega), Nat.sub_zero]) ?_
        intro u5 M
        replace M : Mem ⟨w, []⟩ [⟨g1, .cells (av 4 (ls [.bool (v0), .int .u64 h0, .int .u64 l0, .int .u16 f])) 40⟩, ⟨g2, .cells (av 4 (ls [.bool (v1), .int .u64 h1, .int .u64 l1, .int .u16 g])) 40⟩, ⟨g3, .cells (av 9 (ls [.bool false, .int .u64 0, .int .u64 0, .bool false, .int .u64 0, .int .u64 0, .int .u8 0, .int .u8 0, .string ⟨#[]⟩])) 26⟩] u5 := M
        refine pl_val (want_no rfl) (some 12) rfl (.int .i64 (pkE v0 h0 l0 v1 h1 l1 (tcA f g 16) (tcB d))) (fun _ => by kernel_rfl) ?_
        refine pl_nil ?_
        refine au_then ?_
        refine wp_seq ?_
        refine wp_seq ?_
        refine rg_lit ?_
        refine pl_val (want_no rfl) (some 39) rfl (.int .i64 (pkE v0 h0 l0 v1 h1 l1 (tcA f g 16) (tcB d))) (fun _ => by kernel_rfl) ?_
        refine pl_val (want_no rfl) (some 40) rfl (.bool true) (fun w => Eq.trans (b := .ok (.value (.bool (!(decide ((pkE v0 h0 l0 v1 h1 l1 (tcA f g 16) (tcB d)) = 0))))) w) (by kernel_rfl) (by rw [decide_eq_false (c2)]; rfl)) ?_
        refine pl_nil ?_
        refine au_then ?_
        refine wp_cond_true (by kernel_rfl) ?_
        refine wp_seq ?_
        refine rg_lit ?_
        refine pl_call M (want_no rfl) (some 41) rfl 7 #[] (.bool true) (fun _ => by kernel_rfl) (fun w M => c_works w M.laid) ?_
        intro u6 M
        refine pl_val (want_no rfl) (some 10) rfl (.bool true) (fun _ => by kernel_rfl) ?_
        refine pl_nil ?_
        refine au_then ?_
        refine wp_ret ?_
        refine au_then_ret ?_
        exact bodyPost_ret (v := .bool true) (results_tmp1 Try.results6 _ _ _ (by kernel_rfl)) (by kernel_rfl) ⟨rfl, below_grown M.old⟩

theorem c_turned (v0 : Bool) (h0 l0 f : Int) (v1 : Bool) (h1 l1 g : Int) (d : ByteArray) (at_ by_ : Int) (ha : 0 ≤ at_ ∧ at_ < 65536) (hb : 0 ≤ by_ ∧ by_ < 256) (w : World) (hL : Laid w) :
    Calls Try.prog 6 #[.agg (av 4 (ls [.bool (v0), .int .u64 h0, .int .u64 l0, .int .u16 f])), .agg (av 4 (ls [.bool (v1), .int .u64 h1, .int .u64 l1, .int .u16 g])), .string d, .int .u16 at_, .int .u8 by_] w fun r w' => r = .returned (.bool true) ∧ Below w.heap.size w w' :=
  c_turnG v0 h0 l0 f v1 h1 l1 g d at_ by_ ha hb _ _ rfl rfl _ _ rfl rfl w hL

end Go.Proofs.Ytahknenmjnhmjaa
