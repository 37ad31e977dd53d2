/- What was sealed opens, and a byte is turned: the walk of AeadBack. -/
import Derived.Test.YtkndaajbedlajaaDoorA7
namespace Go.Proofs.YtkndaajbedlajaaDoor
open Go.RowKit

/-- A number's lowest 24 bits. -/
def lq (c : Int) : Int := IntKind.wrap .i64 (BitVec.ofInt 64 c &&& BitVec.ofInt 64 16777215).toNat
theorem lq_nat (c : Int) : ∃ m : Nat, lq c = (m : Int) := by
  have h : (BitVec.ofInt 64 c &&& BitVec.ofInt 64 16777215).toNat ≤ 16777215 := by
    rw [BitVec.toNat_and]
    exact Nat.le_trans Nat.and_le_right (by decide)
  exact ⟨_, wrap64 (by omega) (by omega)⟩
theorem run_remN {P : Program} {a : Act} {o : Oper} (t rt : TypeId) (x y : Operand) (ho : o.op = .binOp .rem t x y rt) (m d : Nat) (hx : a.eval x = .int .i64 (m : Int)) (hy : a.eval y = .int .i64 (d : Int)) (hd : 0 < d) (w : World) :
    (execOp a.eval o).run P w = .ok (.value (.int .i64 ((m % d : Nat) : Int))) w := by
  have h0 : ¬ d = 0 := by omega
  have e : Int.tmod (m : Int) (d : Int) = (m : Int) % (d : Int) := rfl
  unfold execOp
  simp [ho, hx, hy, eqGuard, binOp, Op.intDiv, h0, e]
theorem run_slH {P : Program} {a : Act} {o : Oper} (t e : TypeId) (hu : P.underlying t = some (.slice e)) (hs : (P.info? e).map (·.size) = some 1) (x hi : Operand) (ho : o.op = .slice t x none (some hi) none) (g len cap : Nat) (hx : a.eval x = .slice (some ⟨g, 0, none⟩) len cap) (k : IntKind) (i : Nat) (hh : a.eval hi = .int k (i : Int)) (hle : i ≤ cap) (hc : 0 < cap) (w : World) :
    (execOp a.eval o).run P w = .ok (.value (.slice (some ⟨g, 0, none⟩) i cap)) w := by
  cases hq : P.info? e with
  | none => simp [hq] at hs
  | some u =>
    have hne : ¬ cap = 0 := by omega
    unfold execOp
    simp [ho, hx, hh, Instr.sliceAt, Instr.slice, run_underlying hu, Instr.sliceBounds, run_sliceBound, sizeOf, typeInfo, hq, add_at, hne, hle]
/-- A part of the bytes, as a text. -/
theorem run_part {a : Act} {o : Oper} {w : World} (x : Operand) (ho : o.op = .convert 32 9 x) (g off n cp : Nat) (hx : a.eval x = .slice (some ⟨g, off, none⟩) n cp) (Z : Obj) (hg : w.heap[g]? = some Z) (cap : Nat) (s : ByteArray) (hs : SB Z cap (vs8 (sb s))) (hn : off + n ≤ s.size) (v : ByteArray) (hv : s.extract off (off + n) = v) :
    (execOp a.eval o).run Tryd.prog w = .ok (.value (.string v)) w := by
  subst hv
  have hsz : (s.extract off (off + n)).data.toList.length = n := by
    show (s.extract off (off + n)).size = n
    rw [ByteArray.size_extract]
    omega
  have h2 := run_convert_bytes_back (P := Tryd.prog) w 32 9 5 ⟨g, off, none⟩ cp (s.extract off (off + n)).data.toList Tryd.underlying32 Tryd.underlying5 Tryd.underlying9 (fun j hj => by
    have hj2 : j < n := by omega
    have hv : (vs8 (sb s))[off + j]? = some (.int .u8 (bt s (off + j))) := by
      unfold vs8
      rw [List.getElem?_map, sb_get s _ (by omega)]
      rfl
    rw [add_at, hs.cell hg hv]
    have e : bt (s.extract off (off + n)) j = bt s (off + j) := bt_sub s off (off + n) j (by omega) hn
    rw [← e]
    unfold bt
    have hj3 : j < (s.extract off (off + n)).data.size := hj
    rw [Array.getElem?_eq_getElem hj3]
    simp)
  rw [hsz] at h2
  unfold execOp
  simp only [ho, hx, Sem.run_bind, h2, Result.andThen_ok, Sem.run_pure, Array.toArray_toList]
/-- What was sealed, behind what stands beside it. -/
def abS (key nonce ad s : ByteArray) : ByteArray := ad ++ sealS key nonce ad s
theorem abS_size (key nonce ad s : ByteArray) : (abS key nonce ad s).size = ad.size + s.size + 16 := by
  unfold abS
  rw [ByteArray.size_append, sealS_size]
  omega
/-- With a byte turned. -/
def tB (A : ByteArray) (k : Nat) (x : Int) : ByteArray := bs ((sb A).set k (xb (bt A k) x))
theorem tB_sb (A : ByteArray) (k : Nat) (x : Int) : sb (tB A k x) = (sb A).set k (xb (bt A k) x) := sb_bs _ fun y hy => by
  rcases List.mem_or_eq_of_mem_set hy with h | h
  · exact sb_nn A y h
  · rw [h]
    exact xb_nn _ _
theorem tB_size (A : ByteArray) (k : Nat) (x : Int) : (tB A k x).size = A.size := by
  unfold tB
  rw [bs_size, List.length_set, sb_length]
theorem vs8_set (l : List Int) (k : Nat) (x : Int) : (vs8 l).set k (.int .u8 x) = vs8 (l.set k x) := by
  unfold vs8
  rw [List.map_set]
theorem xb_0 (x : Int) (h0 : 0 ≤ x) (h1 : x < 256) : xb x 0 = x := by
  have h := xb_xb x x h0 h1
  have e : xb x x = 0 := by
    unfold xb
    rw [BitVec.xor_self]
    rfl
  rw [e] at h
  have hc : xb 0 x = xb x 0 := by
    unfold xb
    rw [BitVec.xor_comm]
  rw [← hc]
  exact h
theorem tB_0 (A : ByteArray) (k : Nat) (hk : k < A.size) : tB A k 0 = A := by
  have hb := bt_nn A k
  unfold tB
  rw [xb_0 _ hb.1 hb.2]
  have e : (sb A).set k (bt A k) = sb A := by
    apply List.ext_getElem?
    intro i
    rw [List.getElem?_set]
    by_cases h : k = i
    · subst h
      rw [if_pos rfl, if_pos (by rw [sb_length]; exact hk), sb_get A k hk]
    · rw [if_neg h]
  rw [e, bs_sb]

set_option maxRecDepth 100000 in
set_option maxHeartbeats 4000000 in
theorem abA (key nonce ad s : ByteArray) (_bad : ad.size ≤ 140737488351232) (_bs : s.size ≤ 140737488351232) (at_ x : Int) (h : key.size ≠ 32) (w : World) (hL : Laid w)  :
    Calls Tryd.prog 5 #[.string key, .string nonce, .string ad, .string s, .int .i64 at_, .int .u8 x] w fun r w' => r = .returned (.bool true) ∧ Below w.heap.size w w' := by
  go_enter Tryd.func5, Tryd.ntmps5
  have M := Mem.start hL
  refine wp_seq ?_
  refine rg_lit ?_
  refine pl_val (want_no rfl) (some 12) rfl (.bool false) (fun _ => by kernel_rfl) ?_
  refine pl_nil ?_
  refine au_then ?_
  refine wp_seq ?_
  refine wp_seq ?_
  refine rg_lit ?_
  refine pl_val (want_no rfl) (some 23) rfl (.string key) (fun _ => by kernel_rfl) ?_
  refine pl_val (want_no rfl) (some 24) rfl (.int .i64 (key.size : Int)) (fun _ => by kernel_rfl) ?_
  refine pl_val (want_no rfl) (some 25) rfl (.bool true) (fun w => Eq.trans (b := .ok (.value (.bool (!(decide ((key.size : Int) = 32))))) w) (by kernel_rfl) (by rw [decide_eq_false (by omega)]; rfl)) ?_
  refine pl_val (want_no rfl) (some 26) rfl (.bool true) (fun _ => by kernel_rfl) ?_
  refine pl_skip (want_off 3 false rfl 26 rfl (by kernel_rfl)) (some 27) rfl ?_
  refine pl_skip (want_off 3 false rfl 26 rfl (by kernel_rfl)) (some 28) rfl ?_
  refine pl_skip (want_off 3 false rfl 26 rfl (by kernel_rfl)) (some 29) rfl ?_
  refine pl_val (want_no rfl) (some 30) rfl (.bool true) (fun _ => by kernel_rfl) ?_
  refine pl_val (want_no rfl) (some 31) rfl (.bool true) (fun _ => by kernel_rfl) ?_
  refine pl_skip (want_off 8 false rfl 31 rfl (by kernel_rfl)) (some 32) rfl ?_
  refine pl_skip (want_off 8 false rfl 31 rfl (by kernel_rfl)) (some 33) rfl ?_
  refine pl_skip (want_off 8 false rfl 31 rfl (by kernel_rfl)) (some 34) rfl ?_
  refine pl_skip (want_off 8 false rfl 31 rfl (by kernel_rfl)) (some 35) rfl ?_
  refine pl_skip (want_off 8 false rfl 31 rfl (by kernel_rfl)) (some 36) rfl ?_
  refine pl_skip (want_off 8 false rfl 31 rfl (by kernel_rfl)) (some 37) rfl ?_
  refine pl_val (want_no rfl) (some 38) rfl (.bool true) (fun _ => by kernel_rfl) ?_
  refine pl_nil ?_
  refine au_then ?_
  refine wp_cond_true (by kernel_rfl) ?_
  refine wp_seq ?_
  refine rg_lit ?_
  refine pl_call M (want_no rfl) (some 39) rfl 6 #[] (.bool true) (fun _ => by kernel_rfl) (fun w M => c_alive w M.laid) ?_
  intro u1 M
  refine pl_val (want_no rfl) (some 12) rfl (.bool true) (fun _ => by kernel_rfl) ?_
  refine pl_nil ?_
  refine au_then ?_
  refine wp_ret ?_
  refine au_then_ret ?_
  exact bodyPost_ret (v := .bool true) (results_tmp1 Tryd.results5 _ _ _ (by kernel_rfl)) (by kernel_rfl) ⟨rfl, below_grown M.old⟩

set_option maxRecDepth 100000 in
set_option maxHeartbeats 4000000 in
theorem abB (key nonce ad s : ByteArray) (_bad : ad.size ≤ 140737488351232) (_bs : s.size ≤ 140737488351232) (at_ x : Int) (h : key.size = 32) (h2 : nonce.size ≠ 12) (w : World) (hL : Laid w)  :
    Calls Tryd.prog 5 #[.string key, .string nonce, .string ad, .string s, .int .i64 at_, .int .u8 x] w fun r w' => r = .returned (.bool true) ∧ Below w.heap.size w w' := by
  go_enter Tryd.func5, Tryd.ntmps5
  have M := Mem.start hL
  refine wp_seq ?_
  refine rg_lit ?_
  refine pl_val (want_no rfl) (some 12) rfl (.bool false) (fun _ => by kernel_rfl) ?_
  refine pl_nil ?_
  refine au_then ?_
  refine wp_seq ?_
  refine wp_seq ?_
  refine rg_lit ?_
  refine pl_val (want_no rfl) (some 23) rfl (.string key) (fun _ => by kernel_rfl) ?_
  refine pl_val (want_no rfl) (some 24) rfl (.int .i64 (key.size : Int)) (fun _ => by kernel_rfl) ?_
  refine pl_val (want_no rfl) (some 25) rfl (.bool false) (fun w => Eq.trans (b := .ok (.value (.bool (!(decide ((key.size : Int) = 32))))) w) (by kernel_rfl) (by rw [decide_eq_true (by omega)]; rfl)) ?_
  refine pl_val (want_no rfl) (some 26) rfl (.bool false) (fun _ => by kernel_rfl) ?_
  refine pl_val (want_on 3 false rfl 26 rfl (by kernel_rfl)) (some 27) rfl (.string nonce) (fun _ => by kernel_rfl) ?_
  refine pl_val (want_on 3 false rfl 26 rfl (by kernel_rfl)) (some 28) rfl (.int .i64 (nonce.size : Int)) (fun _ => by kernel_rfl) ?_
  refine pl_val (want_on 3 false rfl 26 rfl (by kernel_rfl)) (some 29) rfl (.bool true) (fun w => Eq.trans (b := .ok (.value (.bool (!(decide ((nonce.size : Int) = 12))))) w) (by kernel_rfl) (by rw [decide_eq_false (by omega)]; rfl)) ?_
  refine pl_val (want_no rfl) (some 30) rfl (.bool true) (fun _ => by kernel_rfl) ?_
  refine pl_val (want_no rfl) (some 31) rfl (.bool true) (fun _ => by kernel_rfl) ?_
  refine pl_skip (want_off 8 false rfl 31 rfl (by kernel_rfl)) (some 32) rfl ?_
  refine pl_skip (want_off 8 false rfl 31 rfl (by kernel_rfl)) (some 33) rfl ?_
  refine pl_skip (want_off 8 false rfl 31 rfl (by kernel_rfl)) (some 34) rfl ?_
  refine pl_skip (want_off 8 false rfl 31 rfl (by kernel_rfl)) (some 35) rfl ?_
  refine pl_skip (want_off 8 false rfl 31 rfl (by kernel_rfl)) (some 36) rfl ?_
  refine pl_skip (want_off 8 false rfl 31 rfl (by kernel_rfl)) (some 37) rfl ?_
  refine pl_val (want_no rfl) (some 38) rfl (.bool true) (fun _ => by kernel_rfl) ?_
  refine pl_nil ?_
  refine au_then ?_
  refine wp_cond_true (by kernel_rfl) ?_
  refine wp_seq ?_
  refine rg_lit ?_
  refine pl_call M (want_no rfl) (some 39) rfl 6 #[] (.bool true) (fun _ => by kernel_rfl) (fun w M => c_alive w M.laid) ?_
  intro u1 M
  refine pl_val (want_no rfl) (some 12) rfl (.bool true) (fun _ => by kernel_rfl) ?_
  refine pl_nil ?_
  refine au_then ?_
  refine wp_ret ?_
  refine au_then_ret ?_
  exact bodyPost_ret (v := .bool true) (results_tmp1 Tryd.results5 _ _ _ (by kernel_rfl)) (by kernel_rfl) ⟨rfl, below_grown M.old⟩

set_option maxRecDepth 100000 in
set_option maxHeartbeats 4000000 in
theorem abC (key nonce ad s : ByteArray) (_bad : ad.size ≤ 140737488351232) (_bs : s.size ≤ 140737488351232) (at_ x : Int) (hm : key.size = 32 ∧ nonce.size = 12) (h : 4096 < ad.size + s.size) (w : World) (hL : Laid w)  :
    Calls Tryd.prog 5 #[.string key, .string nonce, .string ad, .string s, .int .i64 at_, .int .u8 x] w fun r w' => r = .returned (.bool true) ∧ Below w.heap.size w w' := by
  go_enter Tryd.func5, Tryd.ntmps5
  have M := Mem.start hL
  refine wp_seq ?_
  refine rg_lit ?_
  refine pl_val (want_no rfl) (some 12) rfl (.bool false) (fun _ => by kernel_rfl) ?_
  refine pl_nil ?_
  refine au_then ?_
  refine wp_seq ?_
  refine wp_seq ?_
  refine rg_lit ?_
  refine pl_val (want_no rfl) (some 23) rfl (.string key) (fun _ => by kernel_rfl) ?_
  refine pl_val (want_no rfl) (some 24) rfl (.int .i64 (key.size : Int)) (fun _ => by kernel_rfl) ?_
  refine pl_val (want_no rfl) (some 25) rfl (.bool false) (fun w => Eq.trans (b := .ok (.value (.bool (!(decide ((key.size : Int) = 32))))) w) (by kernel_rfl) (by rw [decide_eq_true (by omega)]; rfl)) ?_
  refine pl_val (want_no rfl) (some 26) rfl (.bool false) (fun _ => by kernel_rfl) ?_
  refine pl_val (want_on 3 false rfl 26 rfl (by kernel_rfl)) (some 27) rfl (.string nonce) (fun _ => by kernel_rfl) ?_
  refine pl_val (want_on 3 false rfl 26 rfl (by kernel_rfl)) (some 28) rfl (.int .i64 (nonce.size : Int)) (fun _ => by kernel_rfl) ?_
  refine pl_val (want_on 3 false rfl 26 rfl (by kernel_rfl)) (some 29) rfl (.bool false) (fun w => Eq.trans (b := .ok (.value (.bool (!(decide ((nonce.size : Int) = 12))))) w) (by kernel_rfl) (by rw [decide_eq_true (by omega)]; rfl)) ?_
  refine pl_val (want_no rfl) (some 30) rfl (.bool false) (fun _ => by kernel_rfl) ?_
  refine pl_val (want_no rfl) (some 31) rfl (.bool false) (fun _ => by kernel_rfl) ?_
  refine pl_val (want_on 8 false rfl 31 rfl (by kernel_rfl)) (some 32) rfl (.string ad) (fun _ => by kernel_rfl) ?_
  refine pl_val (want_on 8 false rfl 31 rfl (by kernel_rfl)) (some 33) rfl (.int .i64 (ad.size : Int)) (fun _ => by kernel_rfl) ?_
  refine pl_val (want_on 8 false rfl 31 rfl (by kernel_rfl)) (some 34) rfl (.string s) (fun _ => by kernel_rfl) ?_
  refine pl_val (want_on 8 false rfl 31 rfl (by kernel_rfl)) (some 35) rfl (.int .i64 (s.size : Int)) (fun _ => by kernel_rfl) ?_
  refine pl_val (want_on 8 false rfl 31 rfl (by kernel_rfl)) (some 36) rfl (.int .i64 ((ad.size + s.size : Nat) : Int)) (fun w => Eq.trans (b := .ok (.value (.int .i64 (IntKind.wrap .i64 ((ad.size : Int) + (s.size : Int))))) w) (by kernel_rfl) (by rw [wrap64 (by omega) (by omega)]; congr 3)) ?_
  refine pl_val (want_on 8 false rfl 31 rfl (by kernel_rfl)) (some 37) rfl (.bool true) (fun w => Eq.trans (b := .ok (.value (.bool (decide ((4096 : Int) < ((ad.size + s.size : Nat) : Int))))) w) (by kernel_rfl) (by rw [decide_eq_true (by omega)])) ?_
  refine pl_val (want_no rfl) (some 38) rfl (.bool true) (fun _ => by kernel_rfl) ?_
  refine pl_nil ?_
  refine au_then ?_
  refine wp_cond_true (by kernel_rfl) ?_
  refine wp_seq ?_
  refine rg_lit ?_
  refine pl_call M (want_no rfl) (some 39) rfl 6 #[] (.bool true) (fun _ => by kernel_rfl) (fun w M => c_alive w M.laid) ?_
  intro u1 M
  refine pl_val (want_no rfl) (some 12) rfl (.bool true) (fun _ => by kernel_rfl) ?_
  refine pl_nil ?_
  refine au_then ?_
  refine wp_ret ?_
  refine au_then_ret ?_
  exact bodyPost_ret (v := .bool true) (results_tmp1 Tryd.results5 _ _ _ (by kernel_rfl)) (by kernel_rfl) ⟨rfl, below_grown M.old⟩

set_option maxRecDepth 100000 in
set_option maxHeartbeats 4000000 in
theorem abD (key nonce ad s : ByteArray) (bad : ad.size ≤ 140737488351232) (bs_ : s.size ≤ 140737488351232) (at_ x : Int) (hm : key.size = 32 ∧ nonce.size = 12) (h : ¬ 4096 < ad.size + s.size) (m K : Nat) (hq : lq at_ = (m : Int)) (hmk : m % (abS key nonce ad s).size = K) (hK : K < (abS key nonce ad s).size) (hx : x ≠ 0) (e : tgX key nonce ((tB (abS key nonce ad s) K x).extract 0 ad.size) ((tB (abS key nonce ad s) K x).extract ad.size (tB (abS key nonce ad s) K x).size) = ((tB (abS key nonce ad s) K x).extract ad.size (tB (abS key nonce ad s) K x).size).extract (((tB (abS key nonce ad s) K x).extract ad.size (tB (abS key nonce ad s) K x).size).size - 16) ((tB (abS key nonce ad s) K x).extract ad.size (tB (abS key nonce ad s) K x).size).size) (w : World) (hL : Laid w)  :
    Calls Tryd.prog 5 #[.string key, .string nonce, .string ad, .string s, .int .i64 at_, .int .u8 x] w fun r w' => r = .returned (.bool true) ∧ Below w.heap.size w w' := by
  go_enter Tryd.func5, Tryd.ntmps5
  have M := Mem.start hL
  have hA := abS_size key nonce ad s
  have s1 : ((tB (abS key nonce ad s) K x).extract 0 ad.size).size = ad.size := by rw [ByteArray.size_extract, tB_size]; omega
  have s2 : ((tB (abS key nonce ad s) K x).extract ad.size (tB (abS key nonce ad s) K x).size).size = s.size + 16 := by rw [ByteArray.size_extract, tB_size]; omega
  refine wp_seq ?_
  refine rg_lit ?_
  refine pl_val (want_no rfl) (some 12) rfl (.bool false) (fun _ => by kernel_rfl) ?_
  refine pl_nil ?_
  refine au_then ?_
  refine wp_seq ?_
  refine wp_seq ?_
  refine rg_lit ?_
  refine pl_val (want_no rfl) (some 23) rfl (.string key) (fun _ => by kernel_rfl) ?_
  refine pl_val (want_no rfl) (some 24) rfl (.int .i64 (key.size : Int)) (fun _ => by kernel_rfl) ?_
  refine pl_val (want_no rfl) (some 25) rfl (.bool false) (fun w => Eq.trans (b := .ok (.value (.bool (!(decide ((key.size : Int) = 32))))) w) (by kernel_rfl) (by rw [decide_eq_true (by omega)]; rfl)) ?_
  refine pl_val (want_no rfl) (some 26) rfl (.bool false) (fun _ => by kernel_rfl) ?_
  refine pl_val (want_on 3 false rfl 26 rfl (by kernel_rfl)) (some 27) rfl (.string nonce) (fun _ => by kernel_rfl) ?_
  refine pl_val (want_on 3 false rfl 26 rfl (by kernel_rfl)) (some 28) rfl (.int .i64 (nonce.size : Int)) (fun _ => by kernel_rfl) ?_
  refine pl_val (want_on 3 false rfl 26 rfl (by kernel_rfl)) (some 29) rfl (.bool false) (fun w => Eq.trans (b := .ok (.value (.bool (!(decide ((nonce.size : Int) = 12))))) w) (by kernel_rfl) (by rw [decide_eq_true (by omega)]; rfl)) ?_
  refine pl_val (want_no rfl) (some 30) rfl (.bool false) (fun _ => by kernel_rfl) ?_
  refine pl_val (want_no rfl) (some 31) rfl (.bool false) (fun _ => by kernel_rfl) ?_
  refine pl_val (want_on 8 false rfl 31 rfl (by kernel_rfl)) (some 32) rfl (.string ad) (fun _ => by kernel_rfl) ?_
  refine pl_val (want_on 8 false rfl 31 rfl (by kernel_rfl)) (some 33) rfl (.int .i64 (ad.size : Int)) (fun _ => by kernel_rfl) ?_
  refine pl_val (want_on 8 false rfl 31 rfl (by kernel_rfl)) (some 34) rfl (.string s) (fun _ => by kernel_rfl) ?_
  refine pl_val (want_on 8 false rfl 31 rfl (by kernel_rfl)) (some 35) rfl (.int .i64 (s.size : Int)) (fun _ => by kernel_rfl) ?_
  refine pl_val (want_on 8 false rfl 31 rfl (by kernel_rfl)) (some 36) rfl (.int .i64 ((ad.size + s.size : Nat) : Int)) (fun w => Eq.trans (b := .ok (.value (.int .i64 (IntKind.wrap .i64 ((ad.size : Int) + (s.size : Int))))) w) (by kernel_rfl) (by rw [wrap64 (by omega) (by omega)]; congr 3)) ?_
  refine pl_val (want_on 8 false rfl 31 rfl (by kernel_rfl)) (some 37) rfl (.bool false) (fun w => Eq.trans (b := .ok (.value (.bool (decide ((4096 : Int) < ((ad.size + s.size : Nat) : Int))))) w) (by kernel_rfl) (by rw [decide_eq_false (by omega)])) ?_
  refine pl_val (want_no rfl) (some 38) rfl (.bool false) (fun _ => by kernel_rfl) ?_
  refine pl_nil ?_
  refine au_then ?_
  refine wp_cond_false (by kernel_rfl) ?_
  refine wp_skip ?_
  refine au_then ?_
  refine wp_seq ?_
  refine rg_lit ?_
  refine pl_val (want_no rfl) (some 41) rfl (.string key) (fun _ => by kernel_rfl) ?_
  refine pl_val (want_no rfl) (some 42) rfl (.string nonce) (fun _ => by kernel_rfl) ?_
  refine pl_val (want_no rfl) (some 43) rfl (.string ad) (fun _ => by kernel_rfl) ?_
  refine pl_val (want_no rfl) (some 44) rfl (.string s) (fun _ => by kernel_rfl) ?_
  refine pl_call M (want_no rfl) (some 45) rfl 7 #[.string key, .string nonce, .string ad, .string s] (.tuple #[.string (sealS key nonce ad s), .int .i64 0]) (fun _ => by kernel_rfl) (fun w M => c_SealA key nonce ad s (sf_ok hm (by omega) (by omega) (Nat.zero_le _)) w M.laid) ?_
  intro u1 M
  refine pl_val (want_no rfl) (some 40) rfl (.tuple #[.string (sealS key nonce ad s), .int .i64 0]) (fun _ => by kernel_rfl) ?_
  refine pl_val (want_no rfl) (some 46) rfl (.string (sealS key nonce ad s)) (fun _ => by kernel_rfl) ?_
  refine pl_val (want_no rfl) (some 47) rfl (.int .i64 0) (fun _ => by kernel_rfl) ?_
  refine pl_val (want_no rfl) (some 13) rfl (.string (sealS key nonce ad s)) (fun _ => by kernel_rfl) ?_
  refine pl_val (want_no rfl) (some 14) rfl (.int .i64 0) (fun _ => by kernel_rfl) ?_
  refine pl_nil ?_
  refine au_then ?_
  refine wp_seq ?_
  refine rg_lit ?_
  refine pl_val (want_no rfl) (some 49) rfl (.string key) (fun _ => by kernel_rfl) ?_
  refine pl_val (want_no rfl) (some 50) rfl (.string nonce) (fun _ => by kernel_rfl) ?_
  refine pl_val (want_no rfl) (some 51) rfl (.string ad) (fun _ => by kernel_rfl) ?_
  refine pl_val (want_no rfl) (some 52) rfl (.string (sealS key nonce ad s)) (fun _ => by kernel_rfl) ?_
  refine pl_call M (want_no rfl) (some 53) rfl 9 #[.string key, .string nonce, .string ad, .string (sealS key nonce ad s)] (.tuple #[.string s, .int .i64 0]) (fun _ => by kernel_rfl) (fun w M => c_back1 key nonce ad s (sf_ok hm (by omega) (by omega) (Nat.zero_le _)) w M.laid) ?_
  intro u2 M
  refine pl_val (want_no rfl) (some 48) rfl (.tuple #[.string s, .int .i64 0]) (fun _ => by kernel_rfl) ?_
  refine pl_val (want_no rfl) (some 54) rfl (.string s) (fun _ => by kernel_rfl) ?_
  refine pl_val (want_no rfl) (some 55) rfl (.int .i64 0) (fun _ => by kernel_rfl) ?_
  refine pl_val (want_no rfl) (some 15) rfl (.string s) (fun _ => by kernel_rfl) ?_
  refine pl_val (want_no rfl) (some 16) rfl (.int .i64 0) (fun _ => by kernel_rfl) ?_
  refine pl_nil ?_
  refine au_then ?_
  refine wp_seq ?_
  refine wp_seq ?_
  refine rg_lit ?_
  refine pl_val (want_no rfl) (some 56) rfl (.int .i64 0) (fun _ => by kernel_rfl) ?_
  refine pl_val (want_no rfl) (some 57) rfl (.bool false) (fun _ => by kernel_rfl) ?_
  refine pl_val (want_no rfl) (some 58) rfl (.bool false) (fun _ => by kernel_rfl) ?_
  refine pl_val (want_on 2 false rfl 58 rfl (by kernel_rfl)) (some 59) rfl (.int .i64 0) (fun _ => by kernel_rfl) ?_
  refine pl_val (want_on 2 false rfl 58 rfl (by kernel_rfl)) (some 60) rfl (.bool false) (fun _ => by kernel_rfl) ?_
  refine pl_val (want_no rfl) (some 61) rfl (.bool false) (fun _ => by kernel_rfl) ?_
  refine pl_val (want_no rfl) (some 62) rfl (.bool false) (fun _ => by kernel_rfl) ?_
  refine pl_val (want_on 6 false rfl 62 rfl (by kernel_rfl)) (some 63) rfl (.string s) (fun _ => by kernel_rfl) ?_
  refine pl_val (want_on 6 false rfl 62 rfl (by kernel_rfl)) (some 64) rfl (.string s) (fun _ => by kernel_rfl) ?_
  refine pl_val (want_on 6 false rfl 62 rfl (by kernel_rfl)) (some 65) rfl (.bool false) (fun w => Eq.trans (b := .ok (.value (.bool (!(s.toList == s.toList)))) w) (by kernel_rfl) (by rw [beq_self_eq_true]; rfl)) ?_
  refine pl_val (want_no rfl) (some 66) rfl (.bool false) (fun _ => by kernel_rfl) ?_
  refine pl_val (want_no rfl) (some 67) rfl (.bool false) (fun _ => by kernel_rfl) ?_
  refine pl_val (want_on 11 false rfl 67 rfl (by kernel_rfl)) (some 68) rfl (.string (sealS key nonce ad s)) (fun _ => by kernel_rfl) ?_
  refine pl_val (want_on 11 false rfl 67 rfl (by kernel_rfl)) (some 69) rfl (.int .i64 ((sealS key nonce ad s).size : Int)) (fun _ => by kernel_rfl) ?_
  refine pl_val (want_on 11 false rfl 67 rfl (by kernel_rfl)) (some 70) rfl (.string s) (fun _ => by kernel_rfl) ?_
  refine pl_val (want_on 11 false rfl 67 rfl (by kernel_rfl)) (some 71) rfl (.int .i64 (s.size : Int)) (fun _ => by kernel_rfl) ?_
  refine pl_val (want_on 11 false rfl 67 rfl (by kernel_rfl)) (some 72) rfl (.int .i64 ((s.size + 16 : Nat) : Int)) (fun w => Eq.trans (b := .ok (.value (.int .i64 (IntKind.wrap .i64 ((s.size : Int) + 16)))) w) (by kernel_rfl) (by rw [wrap64 (by omega) (by omega)]; congr 3)) ?_
  refine pl_val (want_on 11 false rfl 67 rfl (by kernel_rfl)) (some 73) rfl (.bool false) (fun w => Eq.trans (b := .ok (.value (.bool (!(decide (((sealS key nonce ad s).size : Int) = ((s.size + 16 : Nat) : Int)))))) w) (by kernel_rfl) (by rw [decide_eq_true (by rw [sealS_size])]; rfl)) ?_
  refine pl_val (want_no rfl) (some 74) rfl (.bool false) (fun _ => by kernel_rfl) ?_
  refine pl_nil ?_
  refine au_then ?_
  refine wp_cond_false (by kernel_rfl) ?_
  refine wp_skip ?_
  refine au_then ?_
  refine wp_seq ?_
  refine rg_lit ?_
  refine pl_val (want_no rfl) (some 75) rfl (.string ad) (fun _ => by kernel_rfl) ?_
  refine pl_val (want_no rfl) (some 76) rfl (.string (sealS key nonce ad s)) (fun _ => by kernel_rfl) ?_
  refine pl_val (want_no rfl) (some 77) rfl (.string (abS key nonce ad s)) (run_cat 9 9 _ _ rfl ad (sealS key nonce ad s) (by kernel_rfl) (by kernel_rfl) (by rw [sealS_size]; omega)) ?_
  refine pl_conv M (want_no rfl) (some 78) rfl _ rfl (abS key nonce ad s) (by kernel_rfl) ?_
  intro gq capq Zq u3 hZq M
  replace M : Mem ⟨w, []⟩ [⟨gq, Zq⟩] u3 := M
  have hcap : (abS key nonce ad s).size ≤ capq := by have := hZq.le; rwa [vs8_length, sb_length] at this
  refine pl_val (want_no rfl) (some 17) rfl (.slice (some ⟨gq, 0, none⟩) (abS key nonce ad s).size capq) (fun _ => by kernel_rfl) ?_
  refine pl_nil ?_
  refine au_then ?_
  refine wp_seq ?_
  refine rg_lit ?_
  refine pl_val (want_no rfl) (some 79) rfl (.int .i64 at_) (fun _ => by kernel_rfl) ?_
  refine pl_val (want_no rfl) (some 80) rfl (.int .i64 (m : Int)) (fun w => Eq.trans (b := .ok (.value (.int .i64 (lq at_))) w) (by kernel_rfl) (by rw [hq])) ?_
  refine pl_val (want_no rfl) (some 81) rfl (.slice (some ⟨gq, 0, none⟩) (abS key nonce ad s).size capq) (fun _ => by kernel_rfl) ?_
  refine pl_val (want_no rfl) (some 82) rfl (.int .i64 (((abS key nonce ad s).size : Nat) : Int)) (fun _ => by kernel_rfl) ?_
  refine pl_val (want_no rfl) (some 83) rfl (.int .i64 (K : Int)) (fun w => Eq.trans (run_remN 3 3 _ _ rfl m (abS key nonce ad s).size (by kernel_rfl) (by kernel_rfl) (by omega) w) (by rw [hmk])) ?_
  refine pl_val (want_no rfl) (some 18) rfl (.int .i64 (K : Int)) (fun _ => by kernel_rfl) ?_
  refine pl_nil ?_
  refine au_then ?_
  refine wp_seq ?_
  refine rg_lit ?_
  refine pl_val (want_no rfl) (some 84) rfl (.slice (some ⟨gq, 0, none⟩) (abS key nonce ad s).size capq) (fun _ => by kernel_rfl) ?_
  refine pl_val (want_no rfl) (some 85) rfl (.int .i64 (K : Int)) (fun _ => by kernel_rfl) ?_
  refine pl_val (want_no rfl) (some 86) rfl (.slice (some ⟨gq, 0, none⟩) (abS key nonce ad s).size capq) (fun _ => by kernel_rfl) ?_
  refine pl_val (want_no rfl) (some 87) rfl (.int .i64 (K : Int)) (fun _ => by kernel_rfl) ?_
  refine pl_val (want_no rfl) (some 88) rfl (.pointer (some ⟨gq, K, none⟩)) (run_ix0 32 5 Tryd.underlying32 inz5 _ _ rfl gq (abS key nonce ad s).size capq (by kernel_rfl) .i64 K (by kernel_rfl) hK) ?_
  refine pl_cell M (want_no rfl) (some 89) rfl 5 _ rfl gq K (by kernel_rfl) (.int .u8 (bt (abS key nonce ad s) K)) (fun _ => by kernel_rfl) (fun w M => hZq.cell (M.get 0 rfl) (by unfold vs8; rw [List.getElem?_map, sb_get _ _ hK]; rfl)) ?_
  refine pl_val (want_no rfl) (some 90) rfl (.int .u8 x) (fun _ => by kernel_rfl) ?_
  refine pl_val (want_no rfl) (some 91) rfl (.int .u8 (xb (bt (abS key nonce ad s) K) x)) (fun _ => by kernel_rfl) ?_
  refine pl_val (want_no rfl) (some 92) rfl (.pointer (some ⟨gq, K, none⟩)) (run_ix0 32 5 Tryd.underlying32 inz5 _ _ rfl gq (abS key nonce ad s).size capq (by kernel_rfl) .i64 K (by kernel_rfl) hK) ?_
  refine pl_putS M (want_no rfl) rfl 5 _ _ rfl 0 gq K (by kernel_rfl) Zq rfl capq _ hZq (by rw [vs8_length, sb_length]; exact hK) (.int .u8 (xb (bt (abS key nonce ad s) K) x)) (by kernel_rfl) inz5 rfl rfl ?_
  intro Zr u4 hZr M
  replace M : Mem ⟨w, []⟩ [⟨gq, Zr⟩] u4 := M
  rw [vs8_set, ← tB_sb] at hZr
  refine pl_nil ?_
  refine au_then ?_
  refine wp_seq ?_
  refine rg_held M [⟨gq, Zr⟩] 17 rfl (by kernel_rfl) (by kernel_rfl) (fun _ _ d _ _ h => by cases d <;> exact h) ?_
  intro u5 M
  replace M : Mem ⟨w, []⟩ [⟨gq, Zr⟩] u5 := M
  refine hl_val M 0 rfl (by decide) (by kernel_rfl) (by kernel_rfl) (want_no rfl) (some 94) rfl (.string key) (fun _ _ => by kernel_rfl) ?_
  refine hl_val M 1 rfl (by decide) (by kernel_rfl) (by kernel_rfl) (want_no rfl) (some 95) rfl (.string nonce) (fun _ _ => by kernel_rfl) ?_
  refine hl_val M 2 rfl (by decide) (by kernel_rfl) (by kernel_rfl) (want_no rfl) (some 96) rfl (.slice (some ⟨gq, 0, none⟩) (abS key nonce ad s).size capq) (fun _ _ => by kernel_rfl) ?_
  refine hl_val M 3 rfl (by decide) (by kernel_rfl) (by kernel_rfl) (want_no rfl) (some 97) rfl (.string ad) (fun _ _ => by kernel_rfl) ?_
  refine hl_val M 4 rfl (by decide) (by kernel_rfl) (by kernel_rfl) (want_no rfl) (some 98) rfl (.int .i64 (ad.size : Int)) (fun _ _ => by kernel_rfl) ?_
  refine hl_val M 5 rfl (by decide) (by kernel_rfl) (by kernel_rfl) (want_no rfl) (some 99) rfl (.slice (some ⟨gq, 0, none⟩) ad.size capq) (fun w _ => (run_slH 32 5 Tryd.underlying32 inz5 _ _ rfl gq (abS key nonce ad s).size capq (by kernel_rfl) .i64 ad.size (by kernel_rfl) (by omega) (by omega)) w) ?_
  refine hl_val M 6 rfl (by decide) (by kernel_rfl) (by kernel_rfl) (want_no rfl) (some 100) rfl (.string ((tB (abS key nonce ad s) K x).extract 0 ad.size)) (fun w M => run_part _ rfl gq 0 ad.size capq (by kernel_rfl) Zr (M.get 0 rfl) capq (tB (abS key nonce ad s) K x) hZr (by rw [tB_size]; omega) _ (by rw [Nat.zero_add])) ?_
  refine hl_val M 7 rfl (by decide) (by kernel_rfl) (by kernel_rfl) (want_no rfl) (some 101) rfl (.slice (some ⟨gq, 0, none⟩) (abS key nonce ad s).size capq) (fun _ _ => by kernel_rfl) ?_
  refine hl_val M 8 rfl (by decide) (by kernel_rfl) (by kernel_rfl) (want_no rfl) (some 102) rfl (.string ad) (fun _ _ => by kernel_rfl) ?_
  refine hl_val M 9 rfl (by decide) (by kernel_rfl) (by kernel_rfl) (want_no rfl) (some 103) rfl (.int .i64 (ad.size : Int)) (fun _ _ => by kernel_rfl) ?_
  refine hl_val M 10 rfl (by decide) (by kernel_rfl) (by kernel_rfl) (want_no rfl) (some 104) rfl (.slice (some ⟨gq, (0 + ad.size), none⟩) ((abS key nonce ad s).size - ad.size) (capq - ad.size)) (fun w _ => (Pol.run_slL 32 5 Tryd.underlying32 inz5 _ _ rfl gq 0 (abS key nonce ad s).size capq (by kernel_rfl) .i64 ad.size (by kernel_rfl) (by omega) (by omega)) w) ?_
  refine hl_val M 11 rfl (by decide) (by kernel_rfl) (by kernel_rfl) (want_no rfl) (some 105) rfl (.string ((tB (abS key nonce ad s) K x).extract ad.size (tB (abS key nonce ad s) K x).size)) (fun w M => run_part _ rfl gq (0 + ad.size) ((abS key nonce ad s).size - ad.size) (capq - ad.size) (by kernel_rfl) Zr (M.get 0 rfl) capq (tB (abS key nonce ad s) K x) hZr (by rw [tB_size]; omega) _ (by rw [Nat.zero_add, Nat.add_sub_cancel' (by omega), tB_size])) ?_
  refine hl_one 12 (by decide) (by kernel_rfl) rfl ?_
  refine pl_call M (want_no rfl) (some 106) rfl 9 #[.string key, .string nonce, .string ((tB (abS key nonce ad s) K x).extract 0 ad.size), .string ((tB (abS key nonce ad s) K x).extract ad.size (tB (abS key nonce ad s) K x).size)] (.tuple #[.string (opS key nonce ((tB (abS key nonce ad s) K x).extract ad.size (tB (abS key nonce ad s) K x).size)), .int .i64 0]) (fun _ => by kernel_rfl) (fun w M => c_OpenA key nonce ((tB (abS key nonce ad s) K x).extract 0 ad.size) ((tB (abS key nonce ad s) K x).extract ad.size (tB (abS key nonce ad s) K x).size) (sf_ok hm (by rw [s1]; omega) (by rw [s2]; omega) (by rw [s2]; omega)) e w M.laid) ?_
  intro u6 M
  refine pl_nil ?_
  refine au_then ?_
  refine ⟨M, ?_⟩
  refine hl_val M 13 rfl (by decide) (by kernel_rfl) (by kernel_rfl) (want_no rfl) (some 93) rfl (.tuple #[.string (opS key nonce ((tB (abS key nonce ad s) K x).extract ad.size (tB (abS key nonce ad s) K x).size)), .int .i64 0]) (fun _ _ => by kernel_rfl) ?_
  refine hl_val M 14 rfl (by decide) (by kernel_rfl) (by kernel_rfl) (want_no rfl) (some 107) rfl (.string (opS key nonce ((tB (abS key nonce ad s) K x).extract ad.size (tB (abS key nonce ad s) K x).size))) (fun _ _ => by kernel_rfl) ?_
  refine hl_val M 15 rfl (by decide) (by kernel_rfl) (by kernel_rfl) (want_no rfl) (some 108) rfl (.int .i64 0) (fun _ _ => by kernel_rfl) ?_
  refine hl_val M 16 rfl (by decide) (by kernel_rfl) (by kernel_rfl) (want_no rfl) (some 19) rfl (.string (opS key nonce ((tB (abS key nonce ad s) K x).extract ad.size (tB (abS key nonce ad s) K x).size))) (fun _ _ => by kernel_rfl) ?_
  refine hl_end (by kernel_rfl) (by kernel_rfl) rfl ?_
  refine pl_val (want_no rfl) (some 20) rfl (.int .i64 0) (fun _ => by kernel_rfl) ?_
  refine pl_nil ?_
  refine au_then ?_
  refine au_then ?_
  refine wp_seq ?_
  refine rg_held M [⟨gq, Zr⟩] 17 rfl (by kernel_rfl) (by kernel_rfl) (fun _ _ d _ _ h => by cases d <;> exact h) ?_
  intro u7 M
  replace M : Mem ⟨w, []⟩ [⟨gq, Zr⟩] u7 := M
  refine hl_val M 0 rfl (by decide) (by kernel_rfl) (by kernel_rfl) (want_no rfl) (some 110) rfl (.string key) (fun _ _ => by kernel_rfl) ?_
  refine hl_val M 1 rfl (by decide) (by kernel_rfl) (by kernel_rfl) (want_no rfl) (some 111) rfl (.string nonce) (fun _ _ => by kernel_rfl) ?_
  refine hl_val M 2 rfl (by decide) (by kernel_rfl) (by kernel_rfl) (want_no rfl) (some 112) rfl (.slice (some ⟨gq, 0, none⟩) (abS key nonce ad s).size capq) (fun _ _ => by kernel_rfl) ?_
  refine hl_val M 3 rfl (by decide) (by kernel_rfl) (by kernel_rfl) (want_no rfl) (some 113) rfl (.string ad) (fun _ _ => by kernel_rfl) ?_
  refine hl_val M 4 rfl (by decide) (by kernel_rfl) (by kernel_rfl) (want_no rfl) (some 114) rfl (.int .i64 (ad.size : Int)) (fun _ _ => by kernel_rfl) ?_
  refine hl_val M 5 rfl (by decide) (by kernel_rfl) (by kernel_rfl) (want_no rfl) (some 115) rfl (.slice (some ⟨gq, 0, none⟩) ad.size capq) (fun w _ => (run_slH 32 5 Tryd.underlying32 inz5 _ _ rfl gq (abS key nonce ad s).size capq (by kernel_rfl) .i64 ad.size (by kernel_rfl) (by omega) (by omega)) w) ?_
  refine hl_val M 6 rfl (by decide) (by kernel_rfl) (by kernel_rfl) (want_no rfl) (some 116) rfl (.string ((tB (abS key nonce ad s) K x).extract 0 ad.size)) (fun w M => run_part _ rfl gq 0 ad.size capq (by kernel_rfl) Zr (M.get 0 rfl) capq (tB (abS key nonce ad s) K x) hZr (by rw [tB_size]; omega) _ (by rw [Nat.zero_add])) ?_
  refine hl_val M 7 rfl (by decide) (by kernel_rfl) (by kernel_rfl) (want_no rfl) (some 117) rfl (.slice (some ⟨gq, 0, none⟩) (abS key nonce ad s).size capq) (fun _ _ => by kernel_rfl) ?_
  refine hl_val M 8 rfl (by decide) (by kernel_rfl) (by kernel_rfl) (want_no rfl) (some 118) rfl (.string ad) (fun _ _ => by kernel_rfl) ?_
  refine hl_val M 9 rfl (by decide) (by kernel_rfl) (by kernel_rfl) (want_no rfl) (some 119) rfl (.int .i64 (ad.size : Int)) (fun _ _ => by kernel_rfl) ?_
  refine hl_val M 10 rfl (by decide) (by kernel_rfl) (by kernel_rfl) (want_no rfl) (some 120) rfl (.slice (some ⟨gq, (0 + ad.size), none⟩) ((abS key nonce ad s).size - ad.size) (capq - ad.size)) (fun w _ => (Pol.run_slL 32 5 Tryd.underlying32 inz5 _ _ rfl gq 0 (abS key nonce ad s).size capq (by kernel_rfl) .i64 ad.size (by kernel_rfl) (by omega) (by omega)) w) ?_
  refine hl_val M 11 rfl (by decide) (by kernel_rfl) (by kernel_rfl) (want_no rfl) (some 121) rfl (.string ((tB (abS key nonce ad s) K x).extract ad.size (tB (abS key nonce ad s) K x).size)) (fun w M => run_part _ rfl gq (0 + ad.size) ((abS key nonce ad s).size - ad.size) (capq - ad.size) (by kernel_rfl) Zr (M.get 0 rfl) capq (tB (abS key nonce ad s) K x) hZr (by rw [tB_size]; omega) _ (by rw [Nat.zero_add, Nat.add_sub_cancel' (by omega), tB_size])) ?_
  refine hl_one 12 (by decide) (by kernel_rfl) rfl ?_
  refine pl_call M (want_no rfl) (some 122) rfl 10 #[.string key, .string nonce, .string ((tB (abS key nonce ad s) K x).extract 0 ad.size), .string ((tB (abS key nonce ad s) K x).extract ad.size (tB (abS key nonce ad s) K x).size)] (.tuple #[.string (opS key nonce ((tB (abS key nonce ad s) K x).extract ad.size (tB (abS key nonce ad s) K x).size)), .int .i64 0]) (fun _ => by kernel_rfl) (fun w M => d_OpenA key nonce ((tB (abS key nonce ad s) K x).extract 0 ad.size) ((tB (abS key nonce ad s) K x).extract ad.size (tB (abS key nonce ad s) K x).size) hm (by rw [s1, s2]; omega) (by rw [s2]; omega) e w M.laid) ?_
  intro u8 M
  refine pl_nil ?_
  refine au_then ?_
  refine ⟨M, ?_⟩
  refine hl_val M 13 rfl (by decide) (by kernel_rfl) (by kernel_rfl) (want_no rfl) (some 109) rfl (.tuple #[.string (opS key nonce ((tB (abS key nonce ad s) K x).extract ad.size (tB (abS key nonce ad s) K x).size)), .int .i64 0]) (fun _ _ => by kernel_rfl) ?_
  refine hl_val M 14 rfl (by decide) (by kernel_rfl) (by kernel_rfl) (want_no rfl) (some 123) rfl (.string (opS key nonce ((tB (abS key nonce ad s) K x).extract ad.size (tB (abS key nonce ad s) K x).size))) (fun _ _ => by kernel_rfl) ?_
  refine hl_val M 15 rfl (by decide) (by kernel_rfl) (by kernel_rfl) (want_no rfl) (some 124) rfl (.int .i64 0) (fun _ _ => by kernel_rfl) ?_
  refine hl_val M 16 rfl (by decide) (by kernel_rfl) (by kernel_rfl) (want_no rfl) (some 21) rfl (.string (opS key nonce ((tB (abS key nonce ad s) K x).extract ad.size (tB (abS key nonce ad s) K x).size))) (fun _ _ => by kernel_rfl) ?_
  refine hl_end (by kernel_rfl) (by kernel_rfl) rfl ?_
  refine pl_val (want_no rfl) (some 22) rfl (.int .i64 0) (fun _ => by kernel_rfl) ?_
  refine pl_nil ?_
  refine au_then ?_
  refine au_then ?_
  refine wp_seq ?_
  refine rg_lit ?_
  refine pl_val (want_no rfl) (some 125) rfl (.string (opS key nonce ((tB (abS key nonce ad s) K x).extract ad.size (tB (abS key nonce ad s) K x).size))) (fun _ => by kernel_rfl) ?_
  refine pl_val (want_no rfl) (some 126) rfl (.string (opS key nonce ((tB (abS key nonce ad s) K x).extract ad.size (tB (abS key nonce ad s) K x).size))) (fun _ => by kernel_rfl) ?_
  refine pl_val (want_no rfl) (some 127) rfl (.bool true) (fun w => Eq.trans (b := .ok (.value (.bool ((opS key nonce ((tB (abS key nonce ad s) K x).extract ad.size (tB (abS key nonce ad s) K x).size)).toList == (opS key nonce ((tB (abS key nonce ad s) K x).extract ad.size (tB (abS key nonce ad s) K x).size)).toList))) w) (by kernel_rfl) (by rw [beq_self_eq_true])) ?_
  refine pl_val (want_no rfl) (some 128) rfl (.bool true) (fun _ => by kernel_rfl) ?_
  refine pl_val (want_on 3 true rfl 128 rfl (by kernel_rfl)) (some 129) rfl (.int .i64 0) (fun _ => by kernel_rfl) ?_
  refine pl_val (want_on 3 true rfl 128 rfl (by kernel_rfl)) (some 130) rfl (.int .i64 0) (fun _ => by kernel_rfl) ?_
  refine pl_val (want_on 3 true rfl 128 rfl (by kernel_rfl)) (some 131) rfl (.bool true) (fun _ => by kernel_rfl) ?_
  refine pl_val (want_no rfl) (some 132) rfl (.bool true) (fun _ => by kernel_rfl) ?_
  refine pl_val (want_no rfl) (some 133) rfl (.bool true) (fun _ => by kernel_rfl) ?_
  refine pl_val (want_on 8 true rfl 133 rfl (by kernel_rfl)) (some 134) rfl (.int .u8 x) (fun _ => by kernel_rfl) ?_
  refine pl_val (want_on 8 true rfl 133 rfl (by kernel_rfl)) (some 135) rfl (.bool true) (fun w => Eq.trans (b := .ok (.value (.bool (!(decide (x = 0))))) w) (by kernel_rfl) (by rw [decide_eq_false (hx)]; rfl)) ?_
  refine pl_val (want_on 8 true rfl 133 rfl (by kernel_rfl)) (some 136) rfl (.bool true) (fun _ => by kernel_rfl) ?_
  refine pl_skip (want_off 11 false rfl 136 rfl (by kernel_rfl)) (some 137) rfl ?_
  refine pl_skip (want_off 11 false rfl 136 rfl (by kernel_rfl)) (some 138) rfl ?_
  refine pl_val (want_on 8 true rfl 133 rfl (by kernel_rfl)) (some 139) rfl (.bool true) (fun _ => by kernel_rfl) ?_
  refine pl_val (want_no rfl) (some 140) rfl (.bool true) (fun _ => by kernel_rfl) ?_
  refine pl_val (want_no rfl) (some 141) rfl (.bool true) (fun _ => by kernel_rfl) ?_
  refine pl_call M (want_on 16 true rfl 141 rfl (by kernel_rfl)) (some 142) rfl 6 #[] (.bool true) (fun _ => by kernel_rfl) (fun w M => c_alive w M.laid) ?_
  intro u9 M
  refine pl_val (want_no rfl) (some 143) rfl (.bool true) (fun _ => by kernel_rfl) ?_
  refine pl_val (want_no rfl) (some 12) rfl (.bool true) (fun _ => by kernel_rfl) ?_
  refine pl_nil ?_
  refine au_then ?_
  refine wp_ret ?_
  exact bodyPost_ret (v := .bool true) (results_tmp1 Tryd.results5 _ _ _ (by kernel_rfl)) (by kernel_rfl) ⟨rfl, below_grown M.old⟩

set_option maxRecDepth 100000 in
set_option maxHeartbeats 4000000 in
theorem abE (key nonce ad s : ByteArray) (bad : ad.size ≤ 140737488351232) (bs_ : s.size ≤ 140737488351232) (at_ x : Int) (hm : key.size = 32 ∧ nonce.size = 12) (h : ¬ 4096 < ad.size + s.size) (m K : Nat) (hq : lq at_ = (m : Int)) (hmk : m % (abS key nonce ad s).size = K) (hK : K < (abS key nonce ad s).size) (hx : x ≠ 0) (e : tgX key nonce ((tB (abS key nonce ad s) K x).extract 0 ad.size) ((tB (abS key nonce ad s) K x).extract ad.size (tB (abS key nonce ad s) K x).size) ≠ ((tB (abS key nonce ad s) K x).extract ad.size (tB (abS key nonce ad s) K x).size).extract (((tB (abS key nonce ad s) K x).extract ad.size (tB (abS key nonce ad s) K x).size).size - 16) ((tB (abS key nonce ad s) K x).extract ad.size (tB (abS key nonce ad s) K x).size).size) (w : World) (hL : Laid w)  :
    Calls Tryd.prog 5 #[.string key, .string nonce, .string ad, .string s, .int .i64 at_, .int .u8 x] w fun r w' => r = .returned (.bool true) ∧ Below w.heap.size w w' := by
  go_enter Tryd.func5, Tryd.ntmps5
  have M := Mem.start hL
  have hA := abS_size key nonce ad s
  have s1 : ((tB (abS key nonce ad s) K x).extract 0 ad.size).size = ad.size := by rw [ByteArray.size_extract, tB_size]; omega
  have s2 : ((tB (abS key nonce ad s) K x).extract ad.size (tB (abS key nonce ad s) K x).size).size = s.size + 16 := by rw [ByteArray.size_extract, tB_size]; omega
  refine wp_seq ?_
  refine rg_lit ?_
  refine pl_val (want_no rfl) (some 12) rfl (.bool false) (fun _ => by kernel_rfl) ?_
  refine pl_nil ?_
  refine au_then ?_
  refine wp_seq ?_
  refine wp_seq ?_
  refine rg_lit ?_
  refine pl_val (want_no rfl) (some 23) rfl (.string key) (fun _ => by kernel_rfl) ?_
  refine pl_val (want_no rfl) (some 24) rfl (.int .i64 (key.size : Int)) (fun _ => by kernel_rfl) ?_
  refine pl_val (want_no rfl) (some 25) rfl (.bool false) (fun w => Eq.trans (b := .ok (.value (.bool (!(decide ((key.size : Int) = 32))))) w) (by kernel_rfl) (by rw [decide_eq_true (by omega)]; rfl)) ?_
  refine pl_val (want_no rfl) (some 26) rfl (.bool false) (fun _ => by kernel_rfl) ?_
  refine pl_val (want_on 3 false rfl 26 rfl (by kernel_rfl)) (some 27) rfl (.string nonce) (fun _ => by kernel_rfl) ?_
  refine pl_val (want_on 3 false rfl 26 rfl (by kernel_rfl)) (some 28) rfl (.int .i64 (nonce.size : Int)) (fun _ => by kernel_rfl) ?_
  refine pl_val (want_on 3 false rfl 26 rfl (by kernel_rfl)) (some 29) rfl (.bool false) (fun w => Eq.trans (b := .ok (.value (.bool (!(decide ((nonce.size : Int) = 12))))) w) (by kernel_rfl) (by rw [decide_eq_true (by omega)]; rfl)) ?_
  refine pl_val (want_no rfl) (some 30) rfl (.bool false) (fun _ => by kernel_rfl) ?_
  refine pl_val (want_no rfl) (some 31) rfl (.bool false) (fun _ => by kernel_rfl) ?_
  refine pl_val (want_on 8 false rfl 31 rfl (by kernel_rfl)) (some 32) rfl (.string ad) (fun _ => by kernel_rfl) ?_
  refine pl_val (want_on 8 false rfl 31 rfl (by kernel_rfl)) (some 33) rfl (.int .i64 (ad.size : Int)) (fun _ => by kernel_rfl) ?_
  refine pl_val (want_on 8 false rfl 31 rfl (by kernel_rfl)) (some 34) rfl (.string s) (fun _ => by kernel_rfl) ?_
  refine pl_val (want_on 8 false rfl 31 rfl (by kernel_rfl)) (some 35) rfl (.int .i64 (s.size : Int)) (fun _ => by kernel_rfl) ?_
  refine pl_val (want_on 8 false rfl 31 rfl (by kernel_rfl)) (some 36) rfl (.int .i64 ((ad.size + s.size : Nat) : Int)) (fun w => Eq.trans (b := .ok (.value (.int .i64 (IntKind.wrap .i64 ((ad.size : Int) + (s.size : Int))))) w) (by kernel_rfl) (by rw [wrap64 (by omega) (by omega)]; congr 3)) ?_
  refine pl_val (want_on 8 false rfl 31 rfl (by kernel_rfl)) (some 37) rfl (.bool false) (fun w => Eq.trans (b := .ok (.value (.bool (decide ((4096 : Int) < ((ad.size + s.size : Nat) : Int))))) w) (by kernel_rfl) (by rw [decide_eq_false (by omega)])) ?_
  refine pl_val (want_no rfl) (some 38) rfl (.bool false) (fun _ => by kernel_rfl) ?_
  refine pl_nil ?_
  refine au_then ?_
  refine wp_cond_false (by kernel_rfl) ?_
  refine wp_skip ?_
  refine au_then ?_
  refine wp_seq ?_
  refine rg_lit ?_
  refine pl_val (want_no rfl) (some 41) rfl (.string key) (fun _ => by kernel_rfl) ?_
  refine pl_val (want_no rfl) (some 42) rfl (.string nonce) (fun _ => by kernel_rfl) ?_
  refine pl_val (want_no rfl) (some 43) rfl (.string ad) (fun _ => by kernel_rfl) ?_
  refine pl_val (want_no rfl) (some 44) rfl (.string s) (fun _ => by kernel_rfl) ?_
  refine pl_call M (want_no rfl) (some 45) rfl 7 #[.string key, .string nonce, .string ad, .string s] (.tuple #[.string (sealS key nonce ad s), .int .i64 0]) (fun _ => by kernel_rfl) (fun w M => c_SealA key nonce ad s (sf_ok hm (by omega) (by omega) (Nat.zero_le _)) w M.laid) ?_
  intro u1 M
  refine pl_val (want_no rfl) (some 40) rfl (.tuple #[.string (sealS key nonce ad s), .int .i64 0]) (fun _ => by kernel_rfl) ?_
  refine pl_val (want_no rfl) (some 46) rfl (.string (sealS key nonce ad s)) (fun _ => by kernel_rfl) ?_
  refine pl_val (want_no rfl) (some 47) rfl (.int .i64 0) (fun _ => by kernel_rfl) ?_
  refine pl_val (want_no rfl) (some 13) rfl (.string (sealS key nonce ad s)) (fun _ => by kernel_rfl) ?_
  refine pl_val (want_no rfl) (some 14) rfl (.int .i64 0) (fun _ => by kernel_rfl) ?_
  refine pl_nil ?_
  refine au_then ?_
  refine wp_seq ?_
  refine rg_lit ?_
  refine pl_val (want_no rfl) (some 49) rfl (.string key) (fun _ => by kernel_rfl) ?_
  refine pl_val (want_no rfl) (some 50) rfl (.string nonce) (fun _ => by kernel_rfl) ?_
  refine pl_val (want_no rfl) (some 51) rfl (.string ad) (fun _ => by kernel_rfl) ?_
  refine pl_val (want_no rfl) (some 52) rfl (.string (sealS key nonce ad s)) (fun _ => by kernel_rfl) ?_
  refine pl_call M (want_no rfl) (some 53) rfl 9 #[.string key, .string nonce, .string ad, .string (sealS key nonce ad s)] (.tuple #[.string s, .int .i64 0]) (fun _ => by kernel_rfl) (fun w M => c_back1 key nonce ad s (sf_ok hm (by omega) (by omega) (Nat.zero_le _)) w M.laid) ?_
  intro u2 M
  refine pl_val (want_no rfl) (some 48) rfl (.tuple #[.string s, .int .i64 0]) (fun _ => by kernel_rfl) ?_
  refine pl_val (want_no rfl) (some 54) rfl (.string s) (fun _ => by kernel_rfl) ?_
  refine pl_val (want_no rfl) (some 55) rfl (.int .i64 0) (fun _ => by kernel_rfl) ?_
  refine pl_val (want_no rfl) (some 15) rfl (.string s) (fun _ => by kernel_rfl) ?_
  refine pl_val (want_no rfl) (some 16) rfl (.int .i64 0) (fun _ => by kernel_rfl) ?_
  refine pl_nil ?_
  refine au_then ?_
  refine wp_seq ?_
  refine wp_seq ?_
  refine rg_lit ?_
  refine pl_val (want_no rfl) (some 56) rfl (.int .i64 0) (fun _ => by kernel_rfl) ?_
  refine pl_val (want_no rfl) (some 57) rfl (.bool false) (fun _ => by kernel_rfl) ?_
  refine pl_val (want_no rfl) (some 58) rfl (.bool false) (fun _ => by kernel_rfl) ?_
  refine pl_val (want_on 2 false rfl 58 rfl (by kernel_rfl)) (some 59) rfl (.int .i64 0) (fun _ => by kernel_rfl) ?_
  refine pl_val (want_on 2 false rfl 58 rfl (by kernel_rfl)) (some 60) rfl (.bool false) (fun _ => by kernel_rfl) ?_
  refine pl_val (want_no rfl) (some 61) rfl (.bool false) (fun _ => by kernel_rfl) ?_
  refine pl_val (want_no rfl) (some 62) rfl (.bool false) (fun _ => by kernel_rfl) ?_
  refine pl_val (want_on 6 false rfl 62 rfl (by kernel_rfl)) (some 63) rfl (.string s) (fun _ => by kernel_rfl) ?_
  refine pl_val (want_on 6 false rfl 62 rfl (by kernel_rfl)) (some 64) rfl (.string s) (fun _ => by kernel_rfl) ?_
  refine pl_val (want_on 6 false rfl 62 rfl (by kernel_rfl)) (some 65) rfl (.bool false) (fun w => Eq.trans (b := .ok (.value (.bool (!(s.toList == s.toList)))) w) (by kernel_rfl) (by rw [beq_self_eq_true]; rfl)) ?_
  refine pl_val (want_no rfl) (some 66) rfl (.bool false) (fun _ => by kernel_rfl) ?_
  refine pl_val (want_no rfl) (some 67) rfl (.bool false) (fun _ => by kernel_rfl) ?_
  refine pl_val (want_on 11 false rfl 67 rfl (by kernel_rfl)) (some 68) rfl (.string (sealS key nonce ad s)) (fun _ => by kernel_rfl) ?_
  refine pl_val (want_on 11 false rfl 67 rfl (by kernel_rfl)) (some 69) rfl (.int .i64 ((sealS key nonce ad s).size : Int)) (fun _ => by kernel_rfl) ?_
  refine pl_val (want_on 11 false rfl 67 rfl (by kernel_rfl)) (some 70) rfl (.string s) (fun _ => by kernel_rfl) ?_
  refine pl_val (want_on 11 false rfl 67 rfl (by kernel_rfl)) (some 71) rfl (.int .i64 (s.size : Int)) (fun _ => by kernel_rfl) ?_
  refine pl_val (want_on 11 false rfl 67 rfl (by kernel_rfl)) (some 72) rfl (.int .i64 ((s.size + 16 : Nat) : Int)) (fun w => Eq.trans (b := .ok (.value (.int .i64 (IntKind.wrap .i64 ((s.size : Int) + 16)))) w) (by kernel_rfl) (by rw [wrap64 (by omega) (by omega)]; congr 3)) ?_
  refine pl_val (want_on 11 false rfl 67 rfl (by kernel_rfl)) (some 73) rfl (.bool false) (fun w => Eq.trans (b := .ok (.value (.bool (!(decide (((sealS key nonce ad s).size : Int) = ((s.size + 16 : Nat) : Int)))))) w) (by kernel_rfl) (by rw [decide_eq_true (by rw [sealS_size])]; rfl)) ?_
  refine pl_val (want_no rfl) (some 74) rfl (.bool false) (fun _ => by kernel_rfl) ?_
  refine pl_nil ?_
  refine au_then ?_
  refine wp_cond_false (by kernel_rfl) ?_
  refine wp_skip ?_
  refine au_then ?_
  refine wp_seq ?_
  refine rg_lit ?_
  refine pl_val (want_no rfl) (some 75) rfl (.string ad) (fun _ => by kernel_rfl) ?_
  refine pl_val (want_no rfl) (some 76) rfl (.string (sealS key nonce ad s)) (fun _ => by kernel_rfl) ?_
  refine pl_val (want_no rfl) (some 77) rfl (.string (abS key nonce ad s)) (run_cat 9 9 _ _ rfl ad (sealS key nonce ad s) (by kernel_rfl) (by kernel_rfl) (by rw [sealS_size]; omega)) ?_
  refine pl_conv M (want_no rfl) (some 78) rfl _ rfl (abS key nonce ad s) (by kernel_rfl) ?_
  intro gq capq Zq u3 hZq M
  replace M : Mem ⟨w, []⟩ [⟨gq, Zq⟩] u3 := M
  have hcap : (abS key nonce ad s).size ≤ capq := by have := hZq.le; rwa [vs8_length, sb_length] at this
  refine pl_val (want_no rfl) (some 17) rfl (.slice (some ⟨gq, 0, none⟩) (abS key nonce ad s).size capq) (fun _ => by kernel_rfl) ?_
  refine pl_nil ?_
  refine au_then ?_
  refine wp_seq ?_
  refine rg_lit ?_
  refine pl_val (want_no rfl) (some 79) rfl (.int .i64 at_) (fun _ => by kernel_rfl) ?_
  refine pl_val (want_no rfl) (some 80) rfl (.int .i64 (m : Int)) (fun w => Eq.trans (b := .ok (.value (.int .i64 (lq at_))) w) (by kernel_rfl) (by rw [hq])) ?_
  refine pl_val (want_no rfl) (some 81) rfl (.slice (some ⟨gq, 0, none⟩) (abS key nonce ad s).size capq) (fun _ => by kernel_rfl) ?_
  refine pl_val (want_no rfl) (some 82) rfl (.int .i64 (((abS key nonce ad s).size : Nat) : Int)) (fun _ => by kernel_rfl) ?_
  refine pl_val (want_no rfl) (some 83) rfl (.int .i64 (K : Int)) (fun w => Eq.trans (run_remN 3 3 _ _ rfl m (abS key nonce ad s).size (by kernel_rfl) (by kernel_rfl) (by omega) w) (by rw [hmk])) ?_
  refine pl_val (want_no rfl) (some 18) rfl (.int .i64 (K : Int)) (fun _ => by kernel_rfl) ?_
  refine pl_nil ?_
  refine au_then ?_
  refine wp_seq ?_
  refine rg_lit ?_
  refine pl_val (want_no rfl) (some 84) rfl (.slice (some ⟨gq, 0, none⟩) (abS key nonce ad s).size capq) (fun _ => by kernel_rfl) ?_
  refine pl_val (want_no rfl) (some 85) rfl (.int .i64 (K : Int)) (fun _ => by kernel_rfl) ?_
  refine pl_val (want_no rfl) (some 86) rfl (.slice (some ⟨gq, 0, none⟩) (abS key nonce ad s).size capq) (fun _ => by kernel_rfl) ?_
  refine pl_val (want_no rfl) (some 87) rfl (.int .i64 (K : Int)) (fun _ => by kernel_rfl) ?_
  refine pl_val (want_no rfl) (some 88) rfl (.pointer (some ⟨gq, K, none⟩)) (run_ix0 32 5 Tryd.underlying32 inz5 _ _ rfl gq (abS key nonce ad s).size capq (by kernel_rfl) .i64 K (by kernel_rfl) hK) ?_
  refine pl_cell M (want_no rfl) (some 89) rfl 5 _ rfl gq K (by kernel_rfl) (.int .u8 (bt (abS key nonce ad s) K)) (fun _ => by kernel_rfl) (fun w M => hZq.cell (M.get 0 rfl) (by unfold vs8; rw [List.getElem?_map, sb_get _ _ hK]; rfl)) ?_
  refine pl_val (want_no rfl) (some 90) rfl (.int .u8 x) (fun _ => by kernel_rfl) ?_
  refine pl_val (want_no rfl) (some 91) rfl (.int .u8 (xb (bt (abS key nonce ad s) K) x)) (fun _ => by kernel_rfl) ?_
  refine pl_val (want_no rfl) (some 92) rfl (.pointer (some ⟨gq, K, none⟩)) (run_ix0 32 5 Tryd.underlying32 inz5 _ _ rfl gq (abS key nonce ad s).size capq (by kernel_rfl) .i64 K (by kernel_rfl) hK) ?_
  refine pl_putS M (want_no rfl) rfl 5 _ _ rfl 0 gq K (by kernel_rfl) Zq rfl capq _ hZq (by rw [vs8_length, sb_length]; exact hK) (.int .u8 (xb (bt (abS key nonce ad s) K) x)) (by kernel_rfl) inz5 rfl rfl ?_
  intro Zr u4 hZr M
  replace M : Mem ⟨w, []⟩ [⟨gq, Zr⟩] u4 := M
  rw [vs8_set, ← tB_sb] at hZr
  refine pl_nil ?_
  refine au_then ?_
  refine wp_seq ?_
  refine rg_held M [⟨gq, Zr⟩] 17 rfl (by kernel_rfl) (by kernel_rfl) (fun _ _ d _ _ h => by cases d <;> exact h) ?_
  intro u5 M
  replace M : Mem ⟨w, []⟩ [⟨gq, Zr⟩] u5 := M
  refine hl_val M 0 rfl (by decide) (by kernel_rfl) (by kernel_rfl) (want_no rfl) (some 94) rfl (.string key) (fun _ _ => by kernel_rfl) ?_
  refine hl_val M 1 rfl (by decide) (by kernel_rfl) (by kernel_rfl) (want_no rfl) (some 95) rfl (.string nonce) (fun _ _ => by kernel_rfl) ?_
  refine hl_val M 2 rfl (by decide) (by kernel_rfl) (by kernel_rfl) (want_no rfl) (some 96) rfl (.slice (some ⟨gq, 0, none⟩) (abS key nonce ad s).size capq) (fun _ _ => by kernel_rfl) ?_
  refine hl_val M 3 rfl (by decide) (by kernel_rfl) (by kernel_rfl) (want_no rfl) (some 97) rfl (.string ad) (fun _ _ => by kernel_rfl) ?_
  refine hl_val M 4 rfl (by decide) (by kernel_rfl) (by kernel_rfl) (want_no rfl) (some 98) rfl (.int .i64 (ad.size : Int)) (fun _ _ => by kernel_rfl) ?_
  refine hl_val M 5 rfl (by decide) (by kernel_rfl) (by kernel_rfl) (want_no rfl) (some 99) rfl (.slice (some ⟨gq, 0, none⟩) ad.size capq) (fun w _ => (run_slH 32 5 Tryd.underlying32 inz5 _ _ rfl gq (abS key nonce ad s).size capq (by kernel_rfl) .i64 ad.size (by kernel_rfl) (by omega) (by omega)) w) ?_
  refine hl_val M 6 rfl (by decide) (by kernel_rfl) (by kernel_rfl) (want_no rfl) (some 100) rfl (.string ((tB (abS key nonce ad s) K x).extract 0 ad.size)) (fun w M => run_part _ rfl gq 0 ad.size capq (by kernel_rfl) Zr (M.get 0 rfl) capq (tB (abS key nonce ad s) K x) hZr (by rw [tB_size]; omega) _ (by rw [Nat.zero_add])) ?_
  refine hl_val M 7 rfl (by decide) (by kernel_rfl) (by kernel_rfl) (want_no rfl) (some 101) rfl (.slice (some ⟨gq, 0, none⟩) (abS key nonce ad s).size capq) (fun _ _ => by kernel_rfl) ?_
  refine hl_val M 8 rfl (by decide) (by kernel_rfl) (by kernel_rfl) (want_no rfl) (some 102) rfl (.string ad) (fun _ _ => by kernel_rfl) ?_
  refine hl_val M 9 rfl (by decide) (by kernel_rfl) (by kernel_rfl) (want_no rfl) (some 103) rfl (.int .i64 (ad.size : Int)) (fun _ _ => by kernel_rfl) ?_
  refine hl_val M 10 rfl (by decide) (by kernel_rfl) (by kernel_rfl) (want_no rfl) (some 104) rfl (.slice (some ⟨gq, (0 + ad.size), none⟩) ((abS key nonce ad s).size - ad.size) (capq - ad.size)) (fun w _ => (Pol.run_slL 32 5 Tryd.underlying32 inz5 _ _ rfl gq 0 (abS key nonce ad s).size capq (by kernel_rfl) .i64 ad.size (by kernel_rfl) (by omega) (by omega)) w) ?_
  refine hl_val M 11 rfl (by decide) (by kernel_rfl) (by kernel_rfl) (want_no rfl) (some 105) rfl (.string ((tB (abS key nonce ad s) K x).extract ad.size (tB (abS key nonce ad s) K x).size)) (fun w M => run_part _ rfl gq (0 + ad.size) ((abS key nonce ad s).size - ad.size) (capq - ad.size) (by kernel_rfl) Zr (M.get 0 rfl) capq (tB (abS key nonce ad s) K x) hZr (by rw [tB_size]; omega) _ (by rw [Nat.zero_add, Nat.add_sub_cancel' (by omega), tB_size])) ?_
  refine hl_one 12 (by decide) (by kernel_rfl) rfl ?_
  refine pl_call M (want_no rfl) (some 106) rfl 9 #[.string key, .string nonce, .string ((tB (abS key nonce ad s) K x).extract 0 ad.size), .string ((tB (abS key nonce ad s) K x).extract ad.size (tB (abS key nonce ad s) K x).size)] (.tuple #[.string ⟨#[]⟩, .int .i64 100]) (fun _ => by kernel_rfl) (fun w M => c_OpenB key nonce ((tB (abS key nonce ad s) K x).extract 0 ad.size) ((tB (abS key nonce ad s) K x).extract ad.size (tB (abS key nonce ad s) K x).size) (sf_ok hm (by rw [s1]; omega) (by rw [s2]; omega) (by rw [s2]; omega)) e w M.laid) ?_
  intro u6 M
  refine pl_nil ?_
  refine au_then ?_
  refine ⟨M, ?_⟩
  refine hl_val M 13 rfl (by decide) (by kernel_rfl) (by kernel_rfl) (want_no rfl) (some 93) rfl (.tuple #[.string ⟨#[]⟩, .int .i64 100]) (fun _ _ => by kernel_rfl) ?_
  refine hl_val M 14 rfl (by decide) (by kernel_rfl) (by kernel_rfl) (want_no rfl) (some 107) rfl (.string ⟨#[]⟩) (fun _ _ => by kernel_rfl) ?_
  refine hl_val M 15 rfl (by decide) (by kernel_rfl) (by kernel_rfl) (want_no rfl) (some 108) rfl (.int .i64 100) (fun _ _ => by kernel_rfl) ?_
  refine hl_val M 16 rfl (by decide) (by kernel_rfl) (by kernel_rfl) (want_no rfl) (some 19) rfl (.string ⟨#[]⟩) (fun _ _ => by kernel_rfl) ?_
  refine hl_end (by kernel_rfl) (by kernel_rfl) rfl ?_
  refine pl_val (want_no rfl) (some 20) rfl (.int .i64 100) (fun _ => by kernel_rfl) ?_
  refine pl_nil ?_
  refine au_then ?_
  refine au_then ?_
  refine wp_seq ?_
  refine rg_held M [⟨gq, Zr⟩] 17 rfl (by kernel_rfl) (by kernel_rfl) (fun _ _ d _ _ h => by cases d <;> exact h) ?_
  intro u7 M
  replace M : Mem ⟨w, []⟩ [⟨gq, Zr⟩] u7 := M
  refine hl_val M 0 rfl (by decide) (by kernel_rfl) (by kernel_rfl) (want_no rfl) (some 110) rfl (.string key) (fun _ _ => by kernel_rfl) ?_
  refine hl_val M 1 rfl (by decide) (by kernel_rfl) (by kernel_rfl) (want_no rfl) (some 111) rfl (.string nonce) (fun _ _ => by kernel_rfl) ?_
  refine hl_val M 2 rfl (by decide) (by kernel_rfl) (by kernel_rfl) (want_no rfl) (some 112) rfl (.slice (some ⟨gq, 0, none⟩) (abS key nonce ad s).size capq) (fun _ _ => by kernel_rfl) ?_
  refine hl_val M 3 rfl (by decide) (by kernel_rfl) (by kernel_rfl) (want_no rfl) (some 113) rfl (.string ad) (fun _ _ => by kernel_rfl) ?_
  refine hl_val M 4 rfl (by decide) (by kernel_rfl) (by kernel_rfl) (want_no rfl) (some 114) rfl (.int .i64 (ad.size : Int)) (fun _ _ => by kernel_rfl) ?_
  refine hl_val M 5 rfl (by decide) (by kernel_rfl) (by kernel_rfl) (want_no rfl) (some 115) rfl (.slice (some ⟨gq, 0, none⟩) ad.size capq) (fun w _ => (run_slH 32 5 Tryd.underlying32 inz5 _ _ rfl gq (abS key nonce ad s).size capq (by kernel_rfl) .i64 ad.size (by kernel_rfl) (by omega) (by omega)) w) ?_
  refine hl_val M 6 rfl (by decide) (by kernel_rfl) (by kernel_rfl) (want_no rfl) (some 116) rfl (.string ((tB (abS key nonce ad s) K x).extract 0 ad.size)) (fun w M => run_part _ rfl gq 0 ad.size capq (by kernel_rfl) Zr (M.get 0 rfl) capq (tB (abS key nonce ad s) K x) hZr (by rw [tB_size]; omega) _ (by rw [Nat.zero_add])) ?_
  refine hl_val M 7 rfl (by decide) (by kernel_rfl) (by kernel_rfl) (want_no rfl) (some 117) rfl (.slice (some ⟨gq, 0, none⟩) (abS key nonce ad s).size capq) (fun _ _ => by kernel_rfl) ?_
  refine hl_val M 8 rfl (by decide) (by kernel_rfl) (by kernel_rfl) (want_no rfl) (some 118) rfl (.string ad) (fun _ _ => by kernel_rfl) ?_
  refine hl_val M 9 rfl (by decide) (by kernel_rfl) (by kernel_rfl) (want_no rfl) (some 119) rfl (.int .i64 (ad.size : Int)) (fun _ _ => by kernel_rfl) ?_
  refine hl_val M 10 rfl (by decide) (by kernel_rfl) (by kernel_rfl) (want_no rfl) (some 120) rfl (.slice (some ⟨gq, (0 + ad.size), none⟩) ((abS key nonce ad s).size - ad.size) (capq - ad.size)) (fun w _ => (Pol.run_slL 32 5 Tryd.underlying32 inz5 _ _ rfl gq 0 (abS key nonce ad s).size capq (by kernel_rfl) .i64 ad.size (by kernel_rfl) (by omega) (by omega)) w) ?_
  refine hl_val M 11 rfl (by decide) (by kernel_rfl) (by kernel_rfl) (want_no rfl) (some 121) rfl (.string ((tB (abS key nonce ad s) K x).extract ad.size (tB (abS key nonce ad s) K x).size)) (fun w M => run_part _ rfl gq (0 + ad.size) ((abS key nonce ad s).size - ad.size) (capq - ad.size) (by kernel_rfl) Zr (M.get 0 rfl) capq (tB (abS key nonce ad s) K x) hZr (by rw [tB_size]; omega) _ (by rw [Nat.zero_add, Nat.add_sub_cancel' (by omega), tB_size])) ?_
  refine hl_one 12 (by decide) (by kernel_rfl) rfl ?_
  refine pl_call M (want_no rfl) (some 122) rfl 10 #[.string key, .string nonce, .string ((tB (abS key nonce ad s) K x).extract 0 ad.size), .string ((tB (abS key nonce ad s) K x).extract ad.size (tB (abS key nonce ad s) K x).size)] (.tuple #[.string ⟨#[]⟩, .int .i64 100]) (fun _ => by kernel_rfl) (fun w M => d_OpenB key nonce ((tB (abS key nonce ad s) K x).extract 0 ad.size) ((tB (abS key nonce ad s) K x).extract ad.size (tB (abS key nonce ad s) K x).size) hm (by rw [s1, s2]; omega) (by rw [s2]; omega) e w M.laid) ?_
  intro u8 M
  refine pl_nil ?_
  refine au_then ?_
  refine ⟨M, ?_⟩
  refine hl_val M 13 rfl (by decide) (by kernel_rfl) (by kernel_rfl) (want_no rfl) (some 109) rfl (.tuple #[.string ⟨#[]⟩, .int .i64 100]) (fun _ _ => by kernel_rfl) ?_
  refine hl_val M 14 rfl (by decide) (by kernel_rfl) (by kernel_rfl) (want_no rfl) (some 123) rfl (.string ⟨#[]⟩) (fun _ _ => by kernel_rfl) ?_
  refine hl_val M 15 rfl (by decide) (by kernel_rfl) (by kernel_rfl) (want_no rfl) (some 124) rfl (.int .i64 100) (fun _ _ => by kernel_rfl) ?_
  refine hl_val M 16 rfl (by decide) (by kernel_rfl) (by kernel_rfl) (want_no rfl) (some 21) rfl (.string ⟨#[]⟩) (fun _ _ => by kernel_rfl) ?_
  refine hl_end (by kernel_rfl) (by kernel_rfl) rfl ?_
  refine pl_val (want_no rfl) (some 22) rfl (.int .i64 100) (fun _ => by kernel_rfl) ?_
  refine pl_nil ?_
  refine au_then ?_
  refine au_then ?_
  refine wp_seq ?_
  refine rg_lit ?_
  refine pl_val (want_no rfl) (some 125) rfl (.string ⟨#[]⟩) (fun _ => by kernel_rfl) ?_
  refine pl_val (want_no rfl) (some 126) rfl (.string ⟨#[]⟩) (fun _ => by kernel_rfl) ?_
  refine pl_val (want_no rfl) (some 127) rfl (.bool true) (fun w => Eq.trans (b := .ok (.value (.bool ((⟨#[]⟩ : ByteArray).toList == (⟨#[]⟩ : ByteArray).toList))) w) (by kernel_rfl) (by rw [beq_self_eq_true])) ?_
  refine pl_val (want_no rfl) (some 128) rfl (.bool true) (fun _ => by kernel_rfl) ?_
  refine pl_val (want_on 3 true rfl 128 rfl (by kernel_rfl)) (some 129) rfl (.int .i64 100) (fun _ => by kernel_rfl) ?_
  refine pl_val (want_on 3 true rfl 128 rfl (by kernel_rfl)) (some 130) rfl (.int .i64 100) (fun _ => by kernel_rfl) ?_
  refine pl_val (want_on 3 true rfl 128 rfl (by kernel_rfl)) (some 131) rfl (.bool true) (fun _ => by kernel_rfl) ?_
  refine pl_val (want_no rfl) (some 132) rfl (.bool true) (fun _ => by kernel_rfl) ?_
  refine pl_val (want_no rfl) (some 133) rfl (.bool true) (fun _ => by kernel_rfl) ?_
  refine pl_val (want_on 8 true rfl 133 rfl (by kernel_rfl)) (some 134) rfl (.int .u8 x) (fun _ => by kernel_rfl) ?_
  refine pl_val (want_on 8 true rfl 133 rfl (by kernel_rfl)) (some 135) rfl (.bool true) (fun w => Eq.trans (b := .ok (.value (.bool (!(decide (x = 0))))) w) (by kernel_rfl) (by rw [decide_eq_false (hx)]; rfl)) ?_
  refine pl_val (want_on 8 true rfl 133 rfl (by kernel_rfl)) (some 136) rfl (.bool true) (fun _ => by kernel_rfl) ?_
  refine pl_skip (want_off 11 false rfl 136 rfl (by kernel_rfl)) (some 137) rfl ?_
  refine pl_skip (want_off 11 false rfl 136 rfl (by kernel_rfl)) (some 138) rfl ?_
  refine pl_val (want_on 8 true rfl 133 rfl (by kernel_rfl)) (some 139) rfl (.bool true) (fun _ => by kernel_rfl) ?_
  refine pl_val (want_no rfl) (some 140) rfl (.bool true) (fun _ => by kernel_rfl) ?_
  refine pl_val (want_no rfl) (some 141) rfl (.bool true) (fun _ => by kernel_rfl) ?_
  refine pl_call M (want_on 16 true rfl 141 rfl (by kernel_rfl)) (some 142) rfl 6 #[] (.bool true) (fun _ => by kernel_rfl) (fun w M => c_alive w M.laid) ?_
  intro u9 M
  refine pl_val (want_no rfl) (some 143) rfl (.bool true) (fun _ => by kernel_rfl) ?_
  refine pl_val (want_no rfl) (some 12) rfl (.bool true) (fun _ => by kernel_rfl) ?_
  refine pl_nil ?_
  refine au_then ?_
  refine wp_ret ?_
  exact bodyPost_ret (v := .bool true) (results_tmp1 Tryd.results5 _ _ _ (by kernel_rfl)) (by kernel_rfl) ⟨rfl, below_grown M.old⟩

set_option maxRecDepth 100000 in
set_option maxHeartbeats 4000000 in
theorem abF (key nonce ad s : ByteArray) (bad : ad.size ≤ 140737488351232) (bs_ : s.size ≤ 140737488351232) (at_ x : Int) (hm : key.size = 32 ∧ nonce.size = 12) (h : ¬ 4096 < ad.size + s.size) (m K : Nat) (hq : lq at_ = (m : Int)) (hmk : m % (abS key nonce ad s).size = K) (hK : K < (abS key nonce ad s).size) (hx : x = 0) (e : tgX key nonce ((tB (abS key nonce ad s) K x).extract 0 ad.size) ((tB (abS key nonce ad s) K x).extract ad.size (tB (abS key nonce ad s) K x).size) = ((tB (abS key nonce ad s) K x).extract ad.size (tB (abS key nonce ad s) K x).size).extract (((tB (abS key nonce ad s) K x).extract ad.size (tB (abS key nonce ad s) K x).size).size - 16) ((tB (abS key nonce ad s) K x).extract ad.size (tB (abS key nonce ad s) K x).size).size) (w : World) (hL : Laid w)  :
    Calls Tryd.prog 5 #[.string key, .string nonce, .string ad, .string s, .int .i64 at_, .int .u8 x] w fun r w' => r = .returned (.bool true) ∧ Below w.heap.size w w' := by
  go_enter Tryd.func5, Tryd.ntmps5
  have M := Mem.start hL
  have hA := abS_size key nonce ad s
  have s1 : ((tB (abS key nonce ad s) K x).extract 0 ad.size).size = ad.size := by rw [ByteArray.size_extract, tB_size]; omega
  have s2 : ((tB (abS key nonce ad s) K x).extract ad.size (tB (abS key nonce ad s) K x).size).size = s.size + 16 := by rw [ByteArray.size_extract, tB_size]; omega
  refine wp_seq ?_
  refine rg_lit ?_
  refine pl_val (want_no rfl) (some 12) rfl (.bool false) (fun _ => by kernel_rfl) ?_
  refine pl_nil ?_
  refine au_then ?_
  refine wp_seq ?_
  refine wp_seq ?_
  refine rg_lit ?_
  refine pl_val (want_no rfl) (some 23) rfl (.string key) (fun _ => by kernel_rfl) ?_
  refine pl_val (want_no rfl) (some 24) rfl (.int .i64 (key.size : Int)) (fun _ => by kernel_rfl) ?_
  refine pl_val (want_no rfl) (some 25) rfl (.bool false) (fun w => Eq.trans (b := .ok (.value (.bool (!(decide ((key.size : Int) = 32))))) w) (by kernel_rfl) (by rw [decide_eq_true (by omega)]; rfl)) ?_
  refine pl_val (want_no rfl) (some 26) rfl (.bool false) (fun _ => by kernel_rfl) ?_
  refine pl_val (want_on 3 false rfl 26 rfl (by kernel_rfl)) (some 27) rfl (.string nonce) (fun _ => by kernel_rfl) ?_
  refine pl_val (want_on 3 false rfl 26 rfl (by kernel_rfl)) (some 28) rfl (.int .i64 (nonce.size : Int)) (fun _ => by kernel_rfl) ?_
  refine pl_val (want_on 3 false rfl 26 rfl (by kernel_rfl)) (some 29) rfl (.bool false) (fun w => Eq.trans (b := .ok (.value (.bool (!(decide ((nonce.size : Int) = 12))))) w) (by kernel_rfl) (by rw [decide_eq_true (by omega)]; rfl)) ?_
  refine pl_val (want_no rfl) (some 30) rfl (.bool false) (fun _ => by kernel_rfl) ?_
  refine pl_val (want_no rfl) (some 31) rfl (.bool false) (fun _ => by kernel_rfl) ?_
  refine pl_val (want_on 8 false rfl 31 rfl (by kernel_rfl)) (some 32) rfl (.string ad) (fun _ => by kernel_rfl) ?_
  refine pl_val (want_on 8 false rfl 31 rfl (by kernel_rfl)) (some 33) rfl (.int .i64 (ad.size : Int)) (fun _ => by kernel_rfl) ?_
  refine pl_val (want_on 8 false rfl 31 rfl (by kernel_rfl)) (some 34) rfl (.string s) (fun _ => by kernel_rfl) ?_
  refine pl_val (want_on 8 false rfl 31 rfl (by kernel_rfl)) (some 35) rfl (.int .i64 (s.size : Int)) (fun _ => by kernel_rfl) ?_
  refine pl_val (want_on 8 false rfl 31 rfl (by kernel_rfl)) (some 36) rfl (.int .i64 ((ad.size + s.size : Nat) : Int)) (fun w => Eq.trans (b := .ok (.value (.int .i64 (IntKind.wrap .i64 ((ad.size : Int) + (s.size : Int))))) w) (by kernel_rfl) (by rw [wrap64 (by omega) (by omega)]; congr 3)) ?_
  refine pl_val (want_on 8 false rfl 31 rfl (by kernel_rfl)) (some 37) rfl (.bool false) (fun w => Eq.trans (b := .ok (.value (.bool (decide ((4096 : Int) < ((ad.size + s.size : Nat) : Int))))) w) (by kernel_rfl) (by rw [decide_eq_false (by omega)])) ?_
  refine pl_val (want_no rfl) (some 38) rfl (.bool false) (fun _ => by kernel_rfl) ?_
  refine pl_nil ?_
  refine au_then ?_
  refine wp_cond_false (by kernel_rfl) ?_
  refine wp_skip ?_
  refine au_then ?_
  refine wp_seq ?_
  refine rg_lit ?_
  refine pl_val (want_no rfl) (some 41) rfl (.string key) (fun _ => by kernel_rfl) ?_
  refine pl_val (want_no rfl) (some 42) rfl (.string nonce) (fun _ => by kernel_rfl) ?_
  refine pl_val (want_no rfl) (some 43) rfl (.string ad) (fun _ => by kernel_rfl) ?_
  refine pl_val (want_no rfl) (some 44) rfl (.string s) (fun _ => by kernel_rfl) ?_
  refine pl_call M (want_no rfl) (some 45) rfl 7 #[.string key, .string nonce, .string ad, .string s] (.tuple #[.string (sealS key nonce ad s), .int .i64 0]) (fun _ => by kernel_rfl) (fun w M => c_SealA key nonce ad s (sf_ok hm (by omega) (by omega) (Nat.zero_le _)) w M.laid) ?_
  intro u1 M
  refine pl_val (want_no rfl) (some 40) rfl (.tuple #[.string (sealS key nonce ad s), .int .i64 0]) (fun _ => by kernel_rfl) ?_
  refine pl_val (want_no rfl) (some 46) rfl (.string (sealS key nonce ad s)) (fun _ => by kernel_rfl) ?_
  refine pl_val (want_no rfl) (some 47) rfl (.int .i64 0) (fun _ => by kernel_rfl) ?_
  refine pl_val (want_no rfl) (some 13) rfl (.string (sealS key nonce ad s)) (fun _ => by kernel_rfl) ?_
  refine pl_val (want_no rfl) (some 14) rfl (.int .i64 0) (fun _ => by kernel_rfl) ?_
  refine pl_nil ?_
  refine au_then ?_
  refine wp_seq ?_
  refine rg_lit ?_
  refine pl_val (want_no rfl) (some 49) rfl (.string key) (fun _ => by kernel_rfl) ?_
  refine pl_val (want_no rfl) (some 50) rfl (.string nonce) (fun _ => by kernel_rfl) ?_
  refine pl_val (want_no rfl) (some 51) rfl (.string ad) (fun _ => by kernel_rfl) ?_
  refine pl_val (want_no rfl) (some 52) rfl (.string (sealS key nonce ad s)) (fun _ => by kernel_rfl) ?_
  refine pl_call M (want_no rfl) (some 53) rfl 9 #[.string key, .string nonce, .string ad, .string (sealS key nonce ad s)] (.tuple #[.string s, .int .i64 0]) (fun _ => by kernel_rfl) (fun w M => c_back1 key nonce ad s (sf_ok hm (by omega) (by omega) (Nat.zero_le _)) w M.laid) ?_
  intro u2 M
  refine pl_val (want_no rfl) (some 48) rfl (.tuple #[.string s, .int .i64 0]) (fun _ => by kernel_rfl) ?_
  refine pl_val (want_no rfl) (some 54) rfl (.string s) (fun _ => by kernel_rfl) ?_
  refine pl_val (want_no rfl) (some 55) rfl (.int .i64 0) (fun _ => by kernel_rfl) ?_
  refine pl_val (want_no rfl) (some 15) rfl (.string s) (fun _ => by kernel_rfl) ?_
  refine pl_val (want_no rfl) (some 16) rfl (.int .i64 0) (fun _ => by kernel_rfl) ?_
  refine pl_nil ?_
  refine au_then ?_
  refine wp_seq ?_
  refine wp_seq ?_
  refine rg_lit ?_
  refine pl_val (want_no rfl) (some 56) rfl (.int .i64 0) (fun _ => by kernel_rfl) ?_
  refine pl_val (want_no rfl) (some 57) rfl (.bool false) (fun _ => by kernel_rfl) ?_
  refine pl_val (want_no rfl) (some 58) rfl (.bool false) (fun _ => by kernel_rfl) ?_
  refine pl_val (want_on 2 false rfl 58 rfl (by kernel_rfl)) (some 59) rfl (.int .i64 0) (fun _ => by kernel_rfl) ?_
  refine pl_val (want_on 2 false rfl 58 rfl (by kernel_rfl)) (some 60) rfl (.bool false) (fun _ => by kernel_rfl) ?_
  refine pl_val (want_no rfl) (some 61) rfl (.bool false) (fun _ => by kernel_rfl) ?_
  refine pl_val (want_no rfl) (some 62) rfl (.bool false) (fun _ => by kernel_rfl) ?_
  refine pl_val (want_on 6 false rfl 62 rfl (by kernel_rfl)) (some 63) rfl (.string s) (fun _ => by kernel_rfl) ?_
  refine pl_val (want_on 6 false rfl 62 rfl (by kernel_rfl)) (some 64) rfl (.string s) (fun _ => by kernel_rfl) ?_
  refine pl_val (want_on 6 false rfl 62 rfl (by kernel_rfl)) (some 65) rfl (.bool false) (fun w => Eq.trans (b := .ok (.value (.bool (!(s.toList == s.toList)))) w) (by kernel_rfl) (by rw [beq_self_eq_true]; rfl)) ?_
  refine pl_val (want_no rfl) (some 66) rfl (.bool false) (fun _ => by kernel_rfl) ?_
  refine pl_val (want_no rfl) (some 67) rfl (.bool false) (fun _ => by kernel_rfl) ?_
  refine pl_val (want_on 11 false rfl 67 rfl (by kernel_rfl)) (some 68) rfl (.string (sealS key nonce ad s)) (fun _ => by kernel_rfl) ?_
  refine pl_val (want_on 11 false rfl 67 rfl (by kernel_rfl)) (some 69) rfl (.int .i64 ((sealS key nonce ad s).size : Int)) (fun _ => by kernel_rfl) ?_
  refine pl_val (want_on 11 false rfl 67 rfl (by kernel_rfl)) (some 70) rfl (.string s) (fun _ => by kernel_rfl) ?_
  refine pl_val (want_on 11 false rfl 67 rfl (by kernel_rfl)) (some 71) rfl (.int .i64 (s.size : Int)) (fun _ => by kernel_rfl) ?_
  refine pl_val (want_on 11 false rfl 67 rfl (by kernel_rfl)) (some 72) rfl (.int .i64 ((s.size + 16 : Nat) : Int)) (fun w => Eq.trans (b := .ok (.value (.int .i64 (IntKind.wrap .i64 ((s.size : Int) + 16)))) w) (by kernel_rfl) (by rw [wrap64 (by omega) (by omega)]; congr 3)) ?_
  refine pl_val (want_on 11 false rfl 67 rfl (by kernel_rfl)) (some 73) rfl (.bool false) (fun w => Eq.trans (b := .ok (.value (.bool (!(decide (((sealS key nonce ad s).size : Int) = ((s.size + 16 : Nat) : Int)))))) w) (by kernel_rfl) (by rw [decide_eq_true (by rw [sealS_size])]; rfl)) ?_
  refine pl_val (want_no rfl) (some 74) rfl (.bool false) (fun _ => by kernel_rfl) ?_
  refine pl_nil ?_
  refine au_then ?_
  refine wp_cond_false (by kernel_rfl) ?_
  refine wp_skip ?_
  refine au_then ?_
  refine wp_seq ?_
  refine rg_lit ?_
  refine pl_val (want_no rfl) (some 75) rfl (.string ad) (fun _ => by kernel_rfl) ?_
  refine pl_val (want_no rfl) (some 76) rfl (.string (sealS key nonce ad s)) (fun _ => by kernel_rfl) ?_
  refine pl_val (want_no rfl) (some 77) rfl (.string (abS key nonce ad s)) (run_cat 9 9 _ _ rfl ad (sealS key nonce ad s) (by kernel_rfl) (by kernel_rfl) (by rw [sealS_size]; omega)) ?_
  refine pl_conv M (want_no rfl) (some 78) rfl _ rfl (abS key nonce ad s) (by kernel_rfl) ?_
  intro gq capq Zq u3 hZq M
  replace M : Mem ⟨w, []⟩ [⟨gq, Zq⟩] u3 := M
  have hcap : (abS key nonce ad s).size ≤ capq := by have := hZq.le; rwa [vs8_length, sb_length] at this
  refine pl_val (want_no rfl) (some 17) rfl (.slice (some ⟨gq, 0, none⟩) (abS key nonce ad s).size capq) (fun _ => by kernel_rfl) ?_
  refine pl_nil ?_
  refine au_then ?_
  refine wp_seq ?_
  refine rg_lit ?_
  refine pl_val (want_no rfl) (some 79) rfl (.int .i64 at_) (fun _ => by kernel_rfl) ?_
  refine pl_val (want_no rfl) (some 80) rfl (.int .i64 (m : Int)) (fun w => Eq.trans (b := .ok (.value (.int .i64 (lq at_))) w) (by kernel_rfl) (by rw [hq])) ?_
  refine pl_val (want_no rfl) (some 81) rfl (.slice (some ⟨gq, 0, none⟩) (abS key nonce ad s).size capq) (fun _ => by kernel_rfl) ?_
  refine pl_val (want_no rfl) (some 82) rfl (.int .i64 (((abS key nonce ad s).size : Nat) : Int)) (fun _ => by kernel_rfl) ?_
  refine pl_val (want_no rfl) (some 83) rfl (.int .i64 (K : Int)) (fun w => Eq.trans (run_remN 3 3 _ _ rfl m (abS key nonce ad s).size (by kernel_rfl) (by kernel_rfl) (by omega) w) (by rw [hmk])) ?_
  refine pl_val (want_no rfl) (some 18) rfl (.int .i64 (K : Int)) (fun _ => by kernel_rfl) ?_
  refine pl_nil ?_
  refine au_then ?_
  refine wp_seq ?_
  refine rg_lit ?_
  refine pl_val (want_no rfl) (some 84) rfl (.slice (some ⟨gq, 0, none⟩) (abS key nonce ad s).size capq) (fun _ => by kernel_rfl) ?_
  refine pl_val (want_no rfl) (some 85) rfl (.int .i64 (K : Int)) (fun _ => by kernel_rfl) ?_
  refine pl_val (want_no rfl) (some 86) rfl (.slice (some ⟨gq, 0, none⟩) (abS key nonce ad s).size capq) (fun _ => by kernel_rfl) ?_
  refine pl_val (want_no rfl) (some 87) rfl (.int .i64 (K : Int)) (fun _ => by kernel_rfl) ?_
  refine pl_val (want_no rfl) (some 88) rfl (.pointer (some ⟨gq, K, none⟩)) (run_ix0 32 5 Tryd.underlying32 inz5 _ _ rfl gq (abS key nonce ad s).size capq (by kernel_rfl) .i64 K (by kernel_rfl) hK) ?_
  refine pl_cell M (want_no rfl) (some 89) rfl 5 _ rfl gq K (by kernel_rfl) (.int .u8 (bt (abS key nonce ad s) K)) (fun _ => by kernel_rfl) (fun w M => hZq.cell (M.get 0 rfl) (by unfold vs8; rw [List.getElem?_map, sb_get _ _ hK]; rfl)) ?_
  refine pl_val (want_no rfl) (some 90) rfl (.int .u8 x) (fun _ => by kernel_rfl) ?_
  refine pl_val (want_no rfl) (some 91) rfl (.int .u8 (xb (bt (abS key nonce ad s) K) x)) (fun _ => by kernel_rfl) ?_
  refine pl_val (want_no rfl) (some 92) rfl (.pointer (some ⟨gq, K, none⟩)) (run_ix0 32 5 Tryd.underlying32 inz5 _ _ rfl gq (abS key nonce ad s).size capq (by kernel_rfl) .i64 K (by kernel_rfl) hK) ?_
  refine pl_putS M (want_no rfl) rfl 5 _ _ rfl 0 gq K (by kernel_rfl) Zq rfl capq _ hZq (by rw [vs8_length, sb_length]; exact hK) (.int .u8 (xb (bt (abS key nonce ad s) K) x)) (by kernel_rfl) inz5 rfl rfl ?_
  intro Zr u4 hZr M
  replace M : Mem ⟨w, []⟩ [⟨gq, Zr⟩] u4 := M
  rw [vs8_set, ← tB_sb] at hZr
  refine pl_nil ?_
  refine au_then ?_
  refine wp_seq ?_
  refine rg_held M [⟨gq, Zr⟩] 17 rfl (by kernel_rfl) (by kernel_rfl) (fun _ _ d _ _ h => by cases d <;> exact h) ?_
  intro u5 M
  replace M : Mem ⟨w, []⟩ [⟨gq, Zr⟩] u5 := M
  refine hl_val M 0 rfl (by decide) (by kernel_rfl) (by kernel_rfl) (want_no rfl) (some 94) rfl (.string key) (fun _ _ => by kernel_rfl) ?_
  refine hl_val M 1 rfl (by decide) (by kernel_rfl) (by kernel_rfl) (want_no rfl) (some 95) rfl (.string nonce) (fun _ _ => by kernel_rfl) ?_
  refine hl_val M 2 rfl (by decide) (by kernel_rfl) (by kernel_rfl) (want_no rfl) (some 96) rfl (.slice (some ⟨gq, 0, none⟩) (abS key nonce ad s).size capq) (fun _ _ => by kernel_rfl) ?_
  refine hl_val M 3 rfl (by decide) (by kernel_rfl) (by kernel_rfl) (want_no rfl) (some 97) rfl (.string ad) (fun _ _ => by kernel_rfl) ?_
  refine hl_val M 4 rfl (by decide) (by kernel_rfl) (by kernel_rfl) (want_no rfl) (some 98) rfl (.int .i64 (ad.size : Int)) (fun _ _ => by kernel_rfl) ?_
  refine hl_val M 5 rfl (by decide) (by kernel_rfl) (by kernel_rfl) (want_no rfl) (some 99) rfl (.slice (some ⟨gq, 0, none⟩) ad.size capq) (fun w _ => (run_slH 32 5 Tryd.underlying32 inz5 _ _ rfl gq (abS key nonce ad s).size capq (by kernel_rfl) .i64 ad.size (by kernel_rfl) (by omega) (by omega)) w) ?_
  refine hl_val M 6 rfl (by decide) (by kernel_rfl) (by kernel_rfl) (want_no rfl) (some 100) rfl (.string ((tB (abS key nonce ad s) K x).extract 0 ad.size)) (fun w M => run_part _ rfl gq 0 ad.size capq (by kernel_rfl) Zr (M.get 0 rfl) capq (tB (abS key nonce ad s) K x) hZr (by rw [tB_size]; omega) _ (by rw [Nat.zero_add])) ?_
  refine hl_val M 7 rfl (by decide) (by kernel_rfl) (by kernel_rfl) (want_no rfl) (some 101) rfl (.slice (some ⟨gq, 0, none⟩) (abS key nonce ad s).size capq) (fun _ _ => by kernel_rfl) ?_
  refine hl_val M 8 rfl (by decide) (by kernel_rfl) (by kernel_rfl) (want_no rfl) (some 102) rfl (.string ad) (fun _ _ => by kernel_rfl) ?_
  refine hl_val M 9 rfl (by decide) (by kernel_rfl) (by kernel_rfl) (want_no rfl) (some 103) rfl (.int .i64 (ad.size : Int)) (fun _ _ => by kernel_rfl) ?_
  refine hl_val M 10 rfl (by decide) (by kernel_rfl) (by kernel_rfl) (want_no rfl) (some 104) rfl (.slice (some ⟨gq, (0 + ad.size), none⟩) ((abS key nonce ad s).size - ad.size) (capq - ad.size)) (fun w _ => (Pol.run_slL 32 5 Tryd.underlying32 inz5 _ _ rfl gq 0 (abS key nonce ad s).size capq (by kernel_rfl) .i64 ad.size (by kernel_rfl) (by omega) (by omega)) w) ?_
  refine hl_val M 11 rfl (by decide) (by kernel_rfl) (by kernel_rfl) (want_no rfl) (some 105) rfl (.string ((tB (abS key nonce ad s) K x).extract ad.size (tB (abS key nonce ad s) K x).size)) (fun w M => run_part _ rfl gq (0 + ad.size) ((abS key nonce ad s).size - ad.size) (capq - ad.size) (by kernel_rfl) Zr (M.get 0 rfl) capq (tB (abS key nonce ad s) K x) hZr (by rw [tB_size]; omega) _ (by rw [Nat.zero_add, Nat.add_sub_cancel' (by omega), tB_size])) ?_
  refine hl_one 12 (by decide) (by kernel_rfl) rfl ?_
  refine pl_call M (want_no rfl) (some 106) rfl 9 #[.string key, .string nonce, .string ((tB (abS key nonce ad s) K x).extract 0 ad.size), .string ((tB (abS key nonce ad s) K x).extract ad.size (tB (abS key nonce ad s) K x).size)] (.tuple #[.string (opS key nonce ((tB (abS key nonce ad s) K x).extract ad.size (tB (abS key nonce ad s) K x).size)), .int .i64 0]) (fun _ => by kernel_rfl) (fun w M => c_OpenA key nonce ((tB (abS key nonce ad s) K x).extract 0 ad.size) ((tB (abS key nonce ad s) K x).extract ad.size (tB (abS key nonce ad s) K x).size) (sf_ok hm (by rw [s1]; omega) (by rw [s2]; omega) (by rw [s2]; omega)) e w M.laid) ?_
  intro u6 M
  refine pl_nil ?_
  refine au_then ?_
  refine ⟨M, ?_⟩
  refine hl_val M 13 rfl (by decide) (by kernel_rfl) (by kernel_rfl) (want_no rfl) (some 93) rfl (.tuple #[.string (opS key nonce ((tB (abS key nonce ad s) K x).extract ad.size (tB (abS key nonce ad s) K x).size)), .int .i64 0]) (fun _ _ => by kernel_rfl) ?_
  refine hl_val M 14 rfl (by decide) (by kernel_rfl) (by kernel_rfl) (want_no rfl) (some 107) rfl (.string (opS key nonce ((tB (abS key nonce ad s) K x).extract ad.size (tB (abS key nonce ad s) K x).size))) (fun _ _ => by kernel_rfl) ?_
  refine hl_val M 15 rfl (by decide) (by kernel_rfl) (by kernel_rfl) (want_no rfl) (some 108) rfl (.int .i64 0) (fun _ _ => by kernel_rfl) ?_
  refine hl_val M 16 rfl (by decide) (by kernel_rfl) (by kernel_rfl) (want_no rfl) (some 19) rfl (.string (opS key nonce ((tB (abS key nonce ad s) K x).extract ad.size (tB (abS key nonce ad s) K x).size))) (fun _ _ => by kernel_rfl) ?_
  refine hl_end (by kernel_rfl) (by kernel_rfl) rfl ?_
  refine pl_val (want_no rfl) (some 20) rfl (.int .i64 0) (fun _ => by kernel_rfl) ?_
  refine pl_nil ?_
  refine au_then ?_
  refine au_then ?_
  refine wp_seq ?_
  refine rg_held M [⟨gq, Zr⟩] 17 rfl (by kernel_rfl) (by kernel_rfl) (fun _ _ d _ _ h => by cases d <;> exact h) ?_
  intro u7 M
  replace M : Mem ⟨w, []⟩ [⟨gq, Zr⟩] u7 := M
  refine hl_val M 0 rfl (by decide) (by kernel_rfl) (by kernel_rfl) (want_no rfl) (some 110) rfl (.string key) (fun _ _ => by kernel_rfl) ?_
  refine hl_val M 1 rfl (by decide) (by kernel_rfl) (by kernel_rfl) (want_no rfl) (some 111) rfl (.string nonce) (fun _ _ => by kernel_rfl) ?_
  refine hl_val M 2 rfl (by decide) (by kernel_rfl) (by kernel_rfl) (want_no rfl) (some 112) rfl (.slice (some ⟨gq, 0, none⟩) (abS key nonce ad s).size capq) (fun _ _ => by kernel_rfl) ?_
  refine hl_val M 3 rfl (by decide) (by kernel_rfl) (by kernel_rfl) (want_no rfl) (some 113) rfl (.string ad) (fun _ _ => by kernel_rfl) ?_
  refine hl_val M 4 rfl (by decide) (by kernel_rfl) (by kernel_rfl) (want_no rfl) (some 114) rfl (.int .i64 (ad.size : Int)) (fun _ _ => by kernel_rfl) ?_
  refine hl_val M 5 rfl (by decide) (by kernel_rfl) (by kernel_rfl) (want_no rfl) (some 115) rfl (.slice (some ⟨gq, 0, none⟩) ad.size capq) (fun w _ => (run_slH 32 5 Tryd.underlying32 inz5 _ _ rfl gq (abS key nonce ad s).size capq (by kernel_rfl) .i64 ad.size (by kernel_rfl) (by omega) (by omega)) w) ?_
  refine hl_val M 6 rfl (by decide) (by kernel_rfl) (by kernel_rfl) (want_no rfl) (some 116) rfl (.string ((tB (abS key nonce ad s) K x).extract 0 ad.size)) (fun w M => run_part _ rfl gq 0 ad.size capq (by kernel_rfl) Zr (M.get 0 rfl) capq (tB (abS key nonce ad s) K x) hZr (by rw [tB_size]; omega) _ (by rw [Nat.zero_add])) ?_
  refine hl_val M 7 rfl (by decide) (by kernel_rfl) (by kernel_rfl) (want_no rfl) (some 117) rfl (.slice (some ⟨gq, 0, none⟩) (abS key nonce ad s).size capq) (fun _ _ => by kernel_rfl) ?_
  refine hl_val M 8 rfl (by decide) (by kernel_rfl) (by kernel_rfl) (want_no rfl) (some 118) rfl (.string ad) (fun _ _ => by kernel_rfl) ?_
  refine hl_val M 9 rfl (by decide) (by kernel_rfl) (by kernel_rfl) (want_no rfl) (some 119) rfl (.int .i64 (ad.size : Int)) (fun _ _ => by kernel_rfl) ?_
  refine hl_val M 10 rfl (by decide) (by kernel_rfl) (by kernel_rfl) (want_no rfl) (some 120) rfl (.slice (some ⟨gq, (0 + ad.size), none⟩) ((abS key nonce ad s).size - ad.size) (capq - ad.size)) (fun w _ => (Pol.run_slL 32 5 Tryd.underlying32 inz5 _ _ rfl gq 0 (abS key nonce ad s).size capq (by kernel_rfl) .i64 ad.size (by kernel_rfl) (by omega) (by omega)) w) ?_
  refine hl_val M 11 rfl (by decide) (by kernel_rfl) (by kernel_rfl) (want_no rfl) (some 121) rfl (.string ((tB (abS key nonce ad s) K x).extract ad.size (tB (abS key nonce ad s) K x).size)) (fun w M => run_part _ rfl gq (0 + ad.size) ((abS key nonce ad s).size - ad.size) (capq - ad.size) (by kernel_rfl) Zr (M.get 0 rfl) capq (tB (abS key nonce ad s) K x) hZr (by rw [tB_size]; omega) _ (by rw [Nat.zero_add, Nat.add_sub_cancel' (by omega), tB_size])) ?_
  refine hl_one 12 (by decide) (by kernel_rfl) rfl ?_
  refine pl_call M (want_no rfl) (some 122) rfl 10 #[.string key, .string nonce, .string ((tB (abS key nonce ad s) K x).extract 0 ad.size), .string ((tB (abS key nonce ad s) K x).extract ad.size (tB (abS key nonce ad s) K x).size)] (.tuple #[.string (opS key nonce ((tB (abS key nonce ad s) K x).extract ad.size (tB (abS key nonce ad s) K x).size)), .int .i64 0]) (fun _ => by kernel_rfl) (fun w M => d_OpenA key nonce ((tB (abS key nonce ad s) K x).extract 0 ad.size) ((tB (abS key nonce ad s) K x).extract ad.size (tB (abS key nonce ad s) K x).size) hm (by rw [s1, s2]; omega) (by rw [s2]; omega) e w M.laid) ?_
  intro u8 M
  refine pl_nil ?_
  refine au_then ?_
  refine ⟨M, ?_⟩
  refine hl_val M 13 rfl (by decide) (by kernel_rfl) (by kernel_rfl) (want_no rfl) (some 109) rfl (.tuple #[.string (opS key nonce ((tB (abS key nonce ad s) K x).extract ad.size (tB (abS key nonce ad s) K x).size)), .int .i64 0]) (fun _ _ => by kernel_rfl) ?_
  refine hl_val M 14 rfl (by decide) (by kernel_rfl) (by kernel_rfl) (want_no rfl) (some 123) rfl (.string (opS key nonce ((tB (abS key nonce ad s) K x).extract ad.size (tB (abS key nonce ad s) K x).size))) (fun _ _ => by kernel_rfl) ?_
  refine hl_val M 15 rfl (by decide) (by kernel_rfl) (by kernel_rfl) (want_no rfl) (some 124) rfl (.int .i64 0) (fun _ _ => by kernel_rfl) ?_
  refine hl_val M 16 rfl (by decide) (by kernel_rfl) (by kernel_rfl) (want_no rfl) (some 21) rfl (.string (opS key nonce ((tB (abS key nonce ad s) K x).extract ad.size (tB (abS key nonce ad s) K x).size))) (fun _ _ => by kernel_rfl) ?_
  refine hl_end (by kernel_rfl) (by kernel_rfl) rfl ?_
  refine pl_val (want_no rfl) (some 22) rfl (.int .i64 0) (fun _ => by kernel_rfl) ?_
  refine pl_nil ?_
  refine au_then ?_
  refine au_then ?_
  refine wp_seq ?_
  refine rg_lit ?_
  refine pl_val (want_no rfl) (some 125) rfl (.string (opS key nonce ((tB (abS key nonce ad s) K x).extract ad.size (tB (abS key nonce ad s) K x).size))) (fun _ => by kernel_rfl) ?_
  refine pl_val (want_no rfl) (some 126) rfl (.string (opS key nonce ((tB (abS key nonce ad s) K x).extract ad.size (tB (abS key nonce ad s) K x).size))) (fun _ => by kernel_rfl) ?_
  refine pl_val (want_no rfl) (some 127) rfl (.bool true) (fun w => Eq.trans (b := .ok (.value (.bool ((opS key nonce ((tB (abS key nonce ad s) K x).extract ad.size (tB (abS key nonce ad s) K x).size)).toList == (opS key nonce ((tB (abS key nonce ad s) K x).extract ad.size (tB (abS key nonce ad s) K x).size)).toList))) w) (by kernel_rfl) (by rw [beq_self_eq_true])) ?_
  refine pl_val (want_no rfl) (some 128) rfl (.bool true) (fun _ => by kernel_rfl) ?_
  refine pl_val (want_on 3 true rfl 128 rfl (by kernel_rfl)) (some 129) rfl (.int .i64 0) (fun _ => by kernel_rfl) ?_
  refine pl_val (want_on 3 true rfl 128 rfl (by kernel_rfl)) (some 130) rfl (.int .i64 0) (fun _ => by kernel_rfl) ?_
  refine pl_val (want_on 3 true rfl 128 rfl (by kernel_rfl)) (some 131) rfl (.bool true) (fun _ => by kernel_rfl) ?_
  refine pl_val (want_no rfl) (some 132) rfl (.bool true) (fun _ => by kernel_rfl) ?_
  refine pl_val (want_no rfl) (some 133) rfl (.bool true) (fun _ => by kernel_rfl) ?_
  refine pl_val (want_on 8 true rfl 133 rfl (by kernel_rfl)) (some 134) rfl (.int .u8 x) (fun _ => by kernel_rfl) ?_
  refine pl_val (want_on 8 true rfl 133 rfl (by kernel_rfl)) (some 135) rfl (.bool false) (fun w => Eq.trans (b := .ok (.value (.bool (!(decide (x = 0))))) w) (by kernel_rfl) (by rw [decide_eq_true (hx)]; rfl)) ?_
  refine pl_val (want_on 8 true rfl 133 rfl (by kernel_rfl)) (some 136) rfl (.bool false) (fun _ => by kernel_rfl) ?_
  refine pl_val (want_on 11 false rfl 136 rfl (by kernel_rfl)) (some 137) rfl (.int .i64 0) (fun _ => by kernel_rfl) ?_
  refine pl_val (want_on 11 false rfl 136 rfl (by kernel_rfl)) (some 138) rfl (.bool true) (fun _ => by kernel_rfl) ?_
  refine pl_val (want_on 8 true rfl 133 rfl (by kernel_rfl)) (some 139) rfl (.bool true) (fun _ => by kernel_rfl) ?_
  refine pl_val (want_no rfl) (some 140) rfl (.bool true) (fun _ => by kernel_rfl) ?_
  refine pl_val (want_no rfl) (some 141) rfl (.bool true) (fun _ => by kernel_rfl) ?_
  refine pl_call M (want_on 16 true rfl 141 rfl (by kernel_rfl)) (some 142) rfl 6 #[] (.bool true) (fun _ => by kernel_rfl) (fun w M => c_alive w M.laid) ?_
  intro u9 M
  refine pl_val (want_no rfl) (some 143) rfl (.bool true) (fun _ => by kernel_rfl) ?_
  refine pl_val (want_no rfl) (some 12) rfl (.bool true) (fun _ => by kernel_rfl) ?_
  refine pl_nil ?_
  refine au_then ?_
  refine wp_ret ?_
  exact bodyPost_ret (v := .bool true) (results_tmp1 Tryd.results5 _ _ _ (by kernel_rfl)) (by kernel_rfl) ⟨rfl, below_grown M.old⟩

theorem c_back (key nonce ad s : ByteArray) (bad : ad.size ≤ 140737488351232) (bs_ : s.size ≤ 140737488351232) (at_ x : Int) (w : World) (hL : Laid w) : Calls Tryd.prog 5 #[.string key, .string nonce, .string ad, .string s, .int .i64 at_, .int .u8 x] w fun r w' => r = .returned (.bool true) ∧ Below w.heap.size w w' := by
  by_cases h : key.size = 32
  · by_cases h2 : nonce.size = 12
    · by_cases h3 : 4096 < ad.size + s.size
      · exact abC key nonce ad s bad bs_ at_ x ⟨h, h2⟩ h3 w hL
      · obtain ⟨m, hq⟩ := lq_nat at_
        have hA := abS_size key nonce ad s
        obtain ⟨K, hmk⟩ : ∃ K, m % (abS key nonce ad s).size = K := ⟨_, rfl⟩
        have hK : K < (abS key nonce ad s).size := by
          rw [← hmk]
          exact Nat.mod_lt _ (by omega)
        by_cases hx : x = 0
        · refine abF key nonce ad s bad bs_ at_ x ⟨h, h2⟩ h3 m K hq hmk hK hx ?_ w hL
          have e0 : (tB (abS key nonce ad s) K x) = abS key nonce ad s := by rw [hx]; exact tB_0 _ K hK
          have e1 : (abS key nonce ad s).extract 0 ad.size = ad := ext_left _ _
          have e2 : (abS key nonce ad s).extract ad.size (abS key nonce ad s).size = sealS key nonce ad s := ext_right _ _
          rw [e0, e1, e2]
          exact seal_tg key nonce ad s
        · by_cases e : tgX key nonce ((tB (abS key nonce ad s) K x).extract 0 ad.size) ((tB (abS key nonce ad s) K x).extract ad.size (tB (abS key nonce ad s) K x).size) = ((tB (abS key nonce ad s) K x).extract ad.size (tB (abS key nonce ad s) K x).size).extract (((tB (abS key nonce ad s) K x).extract ad.size (tB (abS key nonce ad s) K x).size).size - 16) ((tB (abS key nonce ad s) K x).extract ad.size (tB (abS key nonce ad s) K x).size).size
          · exact abD key nonce ad s bad bs_ at_ x ⟨h, h2⟩ h3 m K hq hmk hK hx e w hL
          · exact abE key nonce ad s bad bs_ at_ x ⟨h, h2⟩ h3 m K hq hmk hK hx e w hL
    · exact abB key nonce ad s bad bs_ at_ x h h2 w hL
  · exact abA key nonce ad s bad bs_ at_ x h w hL

end Go.Proofs.YtkndaajbedlajaaDoor
