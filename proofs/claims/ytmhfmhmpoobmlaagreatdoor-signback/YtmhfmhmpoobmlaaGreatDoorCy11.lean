/- Part 11 of the walks and facts. -/
import Derived.Test.YtmhfmhmpoobmlaaGreatDoorCxDef
import Derived.Test.YtmhfmhmpoobmlaaGreatDoorCx1
import Derived.Test.YtmhfmhmpoobmlaaGreatDoorCx2
import Derived.Test.YtmhfmhmpoobmlaaGreatDoorCx3
import Derived.Test.YtmhfmhmpoobmlaaGreatDoorCx4
import Derived.Test.YtmhfmhmpoobmlaaGreatDoorCx5
import Derived.Test.YtmhfmhmpoobmlaaGreatDoorCx6
import Derived.Test.YtmhfmhmpoobmlaaGreatDoorCy7
import Derived.Test.YtmhfmhmpoobmlaaGreatDoorCy8
import Derived.Test.YtmhfmhmpoobmlaaGreatDoorCy9
import Derived.Test.YtmhfmhmpoobmlaaGreatDoorCy10
import Derived.Laws.StructEq
import Derived.Test.YtmhfmhmpoobmlaaGreatDoorRows
set_option maxHeartbeats 4000000
set_option maxRecDepth 100000
namespace Go.Proofs.YtmhfmhmpoobmlaaGreatDoor.Sha
open Go.RowKit
def lq (c : Int) : Int := IntKind.wrap .i64 (BitVec.ofInt 64 c &&& BitVec.ofInt 64 16777215).toNat
theorem lq_nat (c : Int) : ∃ m : Nat, lq c = (m : Int) := by
 have h : (BitVec.ofInt 64 c &&& BitVec.ofInt 64 16777215).toNat ≤ 16777215 := by
  rw [BitVec.toNat_and]
  exact Nat.le_trans Nat.and_le_right (by decide)
 exact ⟨_, wrap64 (by omega) (by omega)⟩
theorem run_remN {P : Program} {a : Act} {o : Oper} (t rt : TypeId) (x y : Operand) (ho : o.op = .binOp .rem t x y rt) (m d : Nat) (hx : a.eval x = .int .i64 (m : Int)) (hy : a.eval y = .int .i64 (d : Int)) (hd : 0 < d) (w : World) :
  (execOp a.eval o).run P w = .ok (.value (.int .i64 ((m % d : Nat) : Int))) w := by
 have h0 : ¬ d = 0 := by omega
 have e : Int.tmod (m : Int) (d : Int) = (m : Int) % (d : Int) := rfl
 unfold execOp
 simp [ho, hx, hy, eqGuard, binOp, Op.intDiv, h0, e]
theorem run_slH {P : Program} {a : Act} {o : Oper} (t e : TypeId) (hu : P.underlying t = some (.slice e)) (hs : (P.info? e).map (·.size) = some 1) (x hi : Operand) (ho : o.op = .slice t x none (some hi) none) (g len cap : Nat) (hx : a.eval x = .slice (some ⟨g, 0, none⟩) len cap) (k : IntKind) (i : Nat) (hh : a.eval hi = .int k (i : Int)) (hle : i ≤ cap) (hc : 0 < cap) (w : World) :
  (execOp a.eval o).run P w = .ok (.value (.slice (some ⟨g, 0, none⟩) i cap)) w := by
 cases hq : P.info? e with
 | none => simp [hq] at hs
 | some u =>
  have hne : ¬ cap = 0 := by omega
  unfold execOp
  simp [ho, hx, hh, Instr.sliceAt, Instr.slice, run_underlying hu, Instr.sliceBounds, run_sliceBound, sizeOf, typeInfo, hq, add_at, hne, hle]
theorem run_part {a : Act} {o : Oper} {w : World} (x : Operand) (ho : o.op = .convert 32 9 x) (g off n cp : Nat) (hx : a.eval x = .slice (some ⟨g, off, none⟩) n cp) (Z : Obj) (hg : w.heap[g]? = some Z) (cap : Nat) (s : ByteArray) (hs : SB Z cap (vs8 (sb s))) (hn : off + n ≤ s.size) (v : ByteArray) (hv : s.extract off (off + n) = v) :
  (execOp a.eval o).run Tryz.prog w = .ok (.value (.string v)) w := by
 subst hv
 have hsz : (s.extract off (off + n)).data.toList.length = n := by
  show (s.extract off (off + n)).size = n
  rw [ByteArray.size_extract]
  omega
 have h2 := run_convert_bytes_back (P := Tryz.prog) w 32 9 5 ⟨g, off, none⟩ cp (s.extract off (off + n)).data.toList Tryz.underlying32 Tryz.underlying5 Tryz.underlying9 (fun j hj => by
  have hj2 : j < n := by omega
  have hv : (vs8 (sb s))[off + j]? = some (.int .u8 (bt s (off + j))) := by
   unfold vs8
   rw [List.getElem?_map, sb_get s _ (by omega)]
   rfl
  rw [add_at, hs.cell hg hv]
  have e : bt (s.extract off (off + n)) j = bt s (off + j) := bt_sub s off (off + n) j (by omega) hn
  rw [← e]
  unfold bt
  have hj3 : j < (s.extract off (off + n)).data.size := hj
  rw [Array.getElem?_eq_getElem hj3]
  simp)
 rw [hsz] at h2
 unfold execOp
 simp only [ho, hx, Sem.run_bind, h2, Result.andThen_ok, Sem.run_pure, Array.toArray_toList]
def tB (A : ByteArray) (k : Nat) (x : Int) : ByteArray := bs ((sb A).set k (xb (bt A k) x))
theorem tB_sb (A : ByteArray) (k : Nat) (x : Int) : sb (tB A k x) = (sb A).set k (xb (bt A k) x) := sb_bs _ fun y hy => by
 rcases List.mem_or_eq_of_mem_set hy with h | h
 ·exact sb_nn A y h
 ·rw [h]
  exact xb_nn _ _
theorem tB_size (A : ByteArray) (k : Nat) (x : Int) : (tB A k x).size = A.size := by
 unfold tB
 rw [bs_size, List.length_set, sb_length]
theorem run_slB {P : Program} {a : Act} {o : Oper} (t e : TypeId) (hu : P.underlying t = some (.slice e)) (hs : (P.info? e).map (·.size) = some 1) (x lo hi : Operand) (ho : o.op = .slice t x (some lo) (some hi) none) (g len cap : Nat) (hx : a.eval x = .slice (some ⟨g, 0, none⟩) len cap) (k k' : IntKind) (i j : Nat) (hi1 : a.eval lo = .int k (i : Int)) (hi2 : a.eval hi = .int k' (j : Int)) (hlt : i < j) (hle : j ≤ cap) (w : World) :
  (execOp a.eval o).run P w = .ok (.value (.slice (some ⟨g, i, none⟩) (j - i) (cap - i))) w := by
 cases hq : P.info? e with
 | none => simp [hq] at hs
 | some u =>
  have hsz : u.size = 1 := by simpa [hq] using hs
  have hne : ¬ cap = i := by omega
  have h2 : i ≤ j := by omega
  unfold execOp
  simp [ho, hx, hi1, hi2, Instr.sliceAt, Instr.slice, run_underlying hu, Instr.sliceBounds, run_sliceBound, sizeOf, typeInfo, hq, hsz, add_at, hne, hle, h2]
theorem run_slE {P : Program} {a : Act} {o : Oper} (t e : TypeId) (hu : P.underlying t = some (.slice e)) (hs : (P.info? e).map (·.size) = some 1) (x lo : Operand) (ho : o.op = .slice t x (some lo) none none) (g len cap : Nat) (hx : a.eval x = .slice (some ⟨g, 0, none⟩) len cap) (k : IntKind) (i : Nat) (hi : a.eval lo = .int k (i : Int)) (hle : i ≤ len) (w : World) :
  (execOp a.eval o).run P w = .ok (.value (.slice (some ⟨g, if cap = i then 0 else i, none⟩) (len - i) (cap - i))) w := by
 cases hq : P.info? e with
 | none => simp [hq] at hs
 | some u =>
  have hsz : u.size = 1 := by simpa [hq] using hs
  unfold execOp
  by_cases h : cap = i
  ·simp [ho, hx, hi, Instr.sliceAt, Instr.slice, run_underlying hu, Instr.sliceBounds, run_sliceBound, sizeOf, typeInfo, hq, hsz, hle, h]
  ·simp [ho, hx, hi, Instr.sliceAt, Instr.slice, run_underlying hu, Instr.sliceBounds, run_sliceBound, sizeOf, typeInfo, hq, hsz, add_at, hle, h]
theorem ex_e (s : ByteArray) (i cap : Nat) (hs : i ≤ s.size) (hc : s.size ≤ cap) : (if cap = i then 0 else i) + (s.size - i) ≤ s.size ∧ s.extract (if cap = i then 0 else i) ((if cap = i then 0 else i) + (s.size - i)) = s.extract i s.size := by
 by_cases h : cap = i
 ·have e : s.size = i := by omega
  rw [if_pos h, e, Nat.sub_self]
  refine ⟨by omega, ?_⟩
  apply ByteArray.ext
  simp
 ·rw [if_neg h, Nat.add_sub_cancel' hs]
  exact ⟨Nat.le_refl _, rfl⟩
def kst (k s : ByteArray) : ByteArray := pb (an k) ++ sg k s ++ s
theorem kst_size (k s : ByteArray) : (kst k s).size = 96 + s.size := by
 unfold kst
 rw [ByteArray.size_append, ByteArray.size_append, pb_size _ (an_bd k), sg_size]
theorem c_back (secret s : ByteArray) (b1 : s.size ≤ 140737488351232) (at_ x : Int) (w : World) (hL : Laid w)  :
  Cs 5 #[.string secret, .string s, .int .i64 at_, .int .u8 x] w (.bool true) := by
 go_enter Tryz.func5, Tryz.ntmps5
 have M := Mem.start hL
 refine sR <| pV 8 (.bool false) <| nT ?_
 refine wp_seq ?_
 refine wp_seq ?_
 by_cases h : secret.size = 32
 ·skip
  by_cases hz : 1024 < s.size
  ·skip
   refine rg_lit ?_
   refine pV 15 (.string secret) <| pV 16 (.int .i64 (secret.size : Int)) <| pH 17 (.bool false) (nF ((secret.size : Int) = 32) (by omega)) <| pV 18 (.bool false) ?_
   refine pl_val (want_on 3 false rfl 18 rfl (by kernel_rfl)) (some 19) rfl (.string s) (fun _ => by kernel_rfl) ?_
   refine pl_val (want_on 3 false rfl 18 rfl (by kernel_rfl)) (some 20) rfl (.int .i64 (s.size : Int)) (fun _ => by kernel_rfl) ?_
   refine pl_val (want_on 3 false rfl 18 rfl (by kernel_rfl)) (some 21) rfl (.bool true) (fun w => Eq.trans (b := .ok (.value (.bool (decide ((1024 : Int) < (s.size : Int))))) w) (by kernel_rfl) (by rw [decide_eq_true (by omega)])) ?_
   refine pV 22 (.bool true) <| nT ?_
   refine cT ?_
   refine sR ?_
   refine pC M 23 7 #[] (.bool true) (fun w M => c_alive w M.laid) fun u1 M => ?_
   refine pV 8 (.bool true) <| nT ?_
   refine wp_ret ?_
   refine au_then_ret ?_
   exact bodyPost_ret (v := .bool true) (results_tmp1 Tryz.results5 _ _ _ (by kernel_rfl)) (by kernel_rfl) ⟨rfl, below_grown M.old⟩
  ·skip
   obtain ⟨m, hq⟩ := lq_nat at_
   have hA := kst_size secret s
   obtain ⟨K, hmk⟩ : ∃ K, m % (kst secret s).size = K := ⟨_, rfl⟩
   have hK : K < (kst secret s).size := by rw [← hmk]; exact Nat.mod_lt _ (by omega)
   refine rg_lit ?_
   refine pV 15 (.string secret) <| pV 16 (.int .i64 (secret.size : Int)) <| pH 17 (.bool false) (nF ((secret.size : Int) = 32) (by omega)) <| pV 18 (.bool false) ?_
   refine pl_val (want_on 3 false rfl 18 rfl (by kernel_rfl)) (some 19) rfl (.string s) (fun _ => by kernel_rfl) ?_
   refine pl_val (want_on 3 false rfl 18 rfl (by kernel_rfl)) (some 20) rfl (.int .i64 (s.size : Int)) (fun _ => by kernel_rfl) ?_
   refine pl_val (want_on 3 false rfl 18 rfl (by kernel_rfl)) (some 21) rfl (.bool false) (fun w => Eq.trans (b := .ok (.value (.bool (decide ((1024 : Int) < (s.size : Int))))) w) (by kernel_rfl) (by rw [decide_eq_false (by omega)])) ?_
   refine pV 22 (.bool false) <| nT ?_
   refine cF ?_
   refine wp_skip ?_
   refine au_then ?_
   refine sR <| pV 25 (.string secret) ?_
   refine pC M 26 8 #[.string secret] (.tuple #[.string (pb (an secret)), .int .i64 0]) (fun w M => (by have e := c_Public secret w M.laid; rw [if_pos h] at e; exact e)) fun u2 M => ?_
   refine pV 24 (.tuple #[.string (pb (an secret)), .int .i64 0]) <| pV 27 (.string (pb (an secret))) <| pV 28 (.int .i64 0) <| pV 9 (.string (pb (an secret))) ?_
   refine pV 10 (.int .i64 0) <| nT <| sR <| pV 30 (.string secret) ?_
   refine pV 31 (.string s) ?_
   refine pC M 32 10 #[.string secret, .string s] (.tuple #[.string (sg secret s), .int .i64 0]) (fun w M => (by have e := c_Sign secret s w M.laid; rw [if_pos h] at e; exact e)) fun u3 M => ?_
   refine pV 29 (.tuple #[.string (sg secret s), .int .i64 0]) <| pV 33 (.string (sg secret s)) <| pV 34 (.int .i64 0) <| pV 11 (.string (sg secret s)) ?_
   refine pV 12 (.int .i64 0) <| nT ?_
   refine wp_seq ?_
   refine sR <| pV 35 (.int .i64 0) <| pV 36 (.bool false) <| pV 37 (.bool false) ?_
   refine pl_val (want_on 2 false rfl 37 rfl (by kernel_rfl)) (some 38) rfl (.int .i64 0) (fun _ => by kernel_rfl) ?_
   refine pl_val (want_on 2 false rfl 37 rfl (by kernel_rfl)) (some 39) rfl (.bool false) (fun _ => by kernel_rfl) ?_
   refine pV 40 (.bool false) <| pV 41 (.bool false) ?_
   refine pl_val (want_on 6 false rfl 41 rfl (by kernel_rfl)) (some 42) rfl (.string (pb (an secret))) (fun _ => by kernel_rfl) ?_
   refine pl_val (want_on 6 false rfl 41 rfl (by kernel_rfl)) (some 43) rfl (.int .i64 ((pb (an secret)).size : Int)) (fun _ => by kernel_rfl) ?_
   refine pl_val (want_on 6 false rfl 41 rfl (by kernel_rfl)) (some 44) rfl (.bool false) (fun w => Eq.trans (b := .ok (.value (.bool (!(decide (((pb (an secret)).size : Int) = 32))))) w) (by kernel_rfl) (by rw [decide_eq_true (by rw [pb_size _ (an_bd _)]; decide)]; rfl)) ?_
   refine pV 45 (.bool false) <| pV 46 (.bool false) ?_
   refine pl_val (want_on 11 false rfl 46 rfl (by kernel_rfl)) (some 47) rfl (.string (sg secret s)) (fun _ => by kernel_rfl) ?_
   refine pl_val (want_on 11 false rfl 46 rfl (by kernel_rfl)) (some 48) rfl (.int .i64 ((sg secret s).size : Int)) (fun _ => by kernel_rfl) ?_
   refine pl_val (want_on 11 false rfl 46 rfl (by kernel_rfl)) (some 49) rfl (.bool false) (fun w => Eq.trans (b := .ok (.value (.bool (!(decide (((sg secret s).size : Int) = 64))))) w) (by kernel_rfl) (by rw [decide_eq_true (by rw [sg_size]; decide)]; rfl)) ?_
   refine pV 50 (.bool false) <| pV 51 (.bool false) ?_
   refine pl_val (want_on 16 false rfl 51 rfl (by kernel_rfl)) (some 52) rfl (.string (pb (an secret))) (fun _ => by kernel_rfl) ?_
   refine pl_val (want_on 16 false rfl 51 rfl (by kernel_rfl)) (some 53) rfl (.string s) (fun _ => by kernel_rfl) ?_
   refine pl_val (want_on 16 false rfl 51 rfl (by kernel_rfl)) (some 54) rfl (.string (sg secret s)) (fun _ => by kernel_rfl) ?_
   refine pl_call M (want_on 16 false rfl 51 rfl (by kernel_rfl)) (some 55) rfl 12 #[.string (pb (an secret)), .string s, .string (sg secret s)] (.bool true) (fun _ => by kernel_rfl) (fun w M => (by have e := c_Verify (pb (an secret)) s (sg secret s) w M.laid; rw [vfy_back] at e; exact e)) fun u4 M => ?_
   refine pl_val (want_on 16 false rfl 51 rfl (by kernel_rfl)) (some 56) rfl (.bool false) (fun _ => by kernel_rfl) ?_
   refine pV 57 (.bool false) <| nT ?_
   refine cF ?_
   refine wp_skip ?_
   refine au_then ?_
   refine wp_seq ?_
   refine wp_seq ?_
   by_cases hx : x = 0
   ·skip
    refine rg_lit ?_
    refine pV 58 (.int .u8 x) <| pH 59 (.bool true) (dT (x = 0) (hx)) <| nT ?_
    refine cT ?_
    refine sR ?_
    refine pC M 60 7 #[] (.bool true) (fun w M => c_alive w M.laid) fun u5 M => ?_
    refine pV 8 (.bool true) <| nT ?_
    refine wp_ret ?_
    refine au_then_ret ?_
    exact bodyPost_ret (v := .bool true) (results_tmp1 Tryz.results5 _ _ _ (by kernel_rfl)) (by kernel_rfl) ⟨rfl, below_grown M.old⟩
   ·skip
    refine rg_lit ?_
    refine pV 58 (.int .u8 x) <| pH 59 (.bool false) (dF (x = 0) (hx)) <| nT ?_
    refine cF ?_
    refine wp_skip ?_
    refine au_then ?_
    refine sR <| pV 61 (.string (pb (an secret))) <| pV 62 (.string (sg secret s)) <| pH 63 (.string ((pb (an secret)) ++ (sg secret s))) (run_cat 9 9 _ _ rfl (pb (an secret)) (sg secret s) (by kernel_rfl) (by kernel_rfl) (by rw [pb_size _ (an_bd _), sg_size]; decide)) ?_
    refine pV 64 (.string s) <| pH 65 (.string (kst secret s)) (run_cat 9 9 _ _ rfl ((pb (an secret)) ++ (sg secret s)) s (by kernel_rfl) (by kernel_rfl) (by rw [ByteArray.size_append, pb_size _ (an_bd _), sg_size]; omega)) ?_
    refine pl_conv M (want_no rfl) (some 66) rfl _ rfl (kst secret s) (by kernel_rfl) ?_
    intro gq capq Zq u6 hZq M
    have hcap : (kst secret s).size ≤ capq := by have := hZq.le; rwa [vs8_length, sb_length] at this
    refine pV 13 (.slice (some ⟨gq, 0, none⟩) (kst secret s).size capq) <| nT <| sR <| pV 67 (.int .i64 at_) ?_
    refine pH 68 (.int .i64 (m : Int)) (fun w => Eq.trans (b := .ok (.value (.int .i64 (lq at_))) w) (by kernel_rfl) (by rw [hq])) <| pV 69 (.slice (some ⟨gq, 0, none⟩) (kst secret s).size capq) <| pV 70 (.int .i64 (((kst secret s).size : Nat) : Int)) <| pH 71 (.int .i64 (K : Int)) (fun w => Eq.trans (run_remN 3 3 _ _ rfl m (kst secret s).size (by kernel_rfl) (by kernel_rfl) (by omega) w) (by rw [hmk])) ?_
    refine pV 14 (.int .i64 (K : Int)) <| nT <| sR <| pV 72 (.slice (some ⟨gq, 0, none⟩) (kst secret s).size capq) ?_
    refine pV 73 (.int .i64 (K : Int)) <| pV 74 (.slice (some ⟨gq, 0, none⟩) (kst secret s).size capq) <| pV 75 (.int .i64 (K : Int)) <| pH 76 (.pointer (some ⟨gq, K, none⟩)) (run_ix0 32 5 Tryz.underlying32 inz5 _ _ rfl gq (kst secret s).size capq (by kernel_rfl) .i64 K (by kernel_rfl) hK) ?_
    refine pE M 77 gq K (.int .u8 (bt (kst secret s) K)) (fun w M => hZq.cell (M.get 0 rfl) (by unfold vs8; rw [List.getElem?_map, sb_get _ _ hK]; rfl)) ?_
    refine pV 78 (.int .u8 x) <| pV 79 (.int .u8 (xb (bt (kst secret s) K) x)) <| pH 80 (.pointer (some ⟨gq, K, none⟩)) (run_ix0 32 5 Tryz.underlying32 inz5 _ _ rfl gq (kst secret s).size capq (by kernel_rfl) .i64 K (by kernel_rfl) hK) ?_
    refine pl_putS M (want_no rfl) rfl 5 _ _ rfl 0 gq K (by kernel_rfl) Zq rfl capq _ hZq (by rw [vs8_length, sb_length]; exact hK) (.int .u8 (xb (bt (kst secret s) K) x)) (by kernel_rfl) inz5 rfl rfl ?_
    intro Zr u7 hZr M
    rw [vs8_set, ← tB_sb] at hZr
    refine nT ?_
    refine wp_seq ?_
    refine rg_held M [⟨gq, Zr⟩] 24 rfl (by kernel_rfl) (by kernel_rfl) (fun _ _ d _ _ h => by cases d <;> exact h) fun u8 M => ?_
    refine qV M 0 81 (.slice (some ⟨gq, 0, none⟩) (kst secret s).size capq) ?_
    refine hl_val M 1 rfl (by decide) (by kernel_rfl) (by kernel_rfl) (want_no rfl) (some 82) rfl (.slice (some ⟨gq, 0, none⟩) 32 capq) (fun w _ => (run_slH 32 5 Tryz.underlying32 inz5 _ _ rfl gq (kst secret s).size capq (by kernel_rfl) .i64 32 (by kernel_rfl) (by omega) (by omega)) w) ?_
    refine hl_val M 2 rfl (by decide) (by kernel_rfl) (by kernel_rfl) (want_no rfl) (some 83) rfl (.string ((tB (kst secret s) K x).extract 0 32)) (fun w M => run_part _ rfl gq 0 32 capq (by kernel_rfl) Zr (M.get 0 rfl) capq (tB (kst secret s) K x) hZr (by rw [tB_size]; omega) _ rfl) ?_
    refine qV M 3 84 (.slice (some ⟨gq, 0, none⟩) (kst secret s).size capq) ?_
    refine hl_val M 4 rfl (by decide) (by kernel_rfl) (by kernel_rfl) (want_no rfl) (some 85) rfl (.slice (some ⟨gq, (if capq = 96 then 0 else 96), none⟩) ((kst secret s).size - 96) (capq - 96)) (fun w _ => (run_slE 32 5 Tryz.underlying32 inz5 _ _ rfl gq (kst secret s).size capq (by kernel_rfl) .i64 96 (by kernel_rfl) (by omega)) w) ?_
    refine hl_val M 5 rfl (by decide) (by kernel_rfl) (by kernel_rfl) (want_no rfl) (some 86) rfl (.string ((tB (kst secret s) K x).extract 96 (tB (kst secret s) K x).size)) (fun w M => run_part _ rfl gq (if capq = 96 then 0 else 96) ((kst secret s).size - 96) (capq - 96) (by kernel_rfl) Zr (M.get 0 rfl) capq (tB (kst secret s) K x) hZr (by have h := (ex_e (tB (kst secret s) K x) 96 capq (by rw [tB_size]; omega) (by rw [tB_size]; omega)).1; rwa [tB_size] at h ⊢) _ (by have h := (ex_e (tB (kst secret s) K x) 96 capq (by rw [tB_size]; omega) (by rw [tB_size]; omega)).2; rw [tB_size] at h ⊢; exact h)) ?_
    refine qV M 6 87 (.slice (some ⟨gq, 0, none⟩) (kst secret s).size capq) ?_
    refine hl_val M 7 rfl (by decide) (by kernel_rfl) (by kernel_rfl) (want_no rfl) (some 88) rfl (.slice (some ⟨gq, 32, none⟩) (96 - 32) (capq - 32)) (fun w _ => (run_slB 32 5 Tryz.underlying32 inz5 _ _ _ rfl gq (kst secret s).size capq (by kernel_rfl) .i64 .i64 32 96 (by kernel_rfl) (by kernel_rfl) (by decide) (by omega)) w) ?_
    refine hl_val M 8 rfl (by decide) (by kernel_rfl) (by kernel_rfl) (want_no rfl) (some 89) rfl (.string ((tB (kst secret s) K x).extract 32 96)) (fun w M => run_part _ rfl gq 32 (96 - 32) (capq - 32) (by kernel_rfl) Zr (M.get 0 rfl) capq (tB (kst secret s) K x) hZr (by rw [tB_size]; omega) _ rfl) ?_
    refine qV M 10 91 (.slice (some ⟨gq, 0, none⟩) (kst secret s).size capq) ?_
    refine hl_val M 11 rfl (by decide) (by kernel_rfl) (by kernel_rfl) (want_no rfl) (some 92) rfl (.slice (some ⟨gq, 0, none⟩) 32 capq) (fun w _ => (run_slH 32 5 Tryz.underlying32 inz5 _ _ rfl gq (kst secret s).size capq (by kernel_rfl) .i64 32 (by kernel_rfl) (by omega) (by omega)) w) ?_
    refine hl_val M 12 rfl (by decide) (by kernel_rfl) (by kernel_rfl) (want_no rfl) (some 93) rfl (.string ((tB (kst secret s) K x).extract 0 32)) (fun w M => run_part _ rfl gq 0 32 capq (by kernel_rfl) Zr (M.get 0 rfl) capq (tB (kst secret s) K x) hZr (by rw [tB_size]; omega) _ rfl) ?_
    refine qV M 13 94 (.slice (some ⟨gq, 0, none⟩) (kst secret s).size capq) ?_
    refine hl_val M 14 rfl (by decide) (by kernel_rfl) (by kernel_rfl) (want_no rfl) (some 95) rfl (.slice (some ⟨gq, (if capq = 96 then 0 else 96), none⟩) ((kst secret s).size - 96) (capq - 96)) (fun w _ => (run_slE 32 5 Tryz.underlying32 inz5 _ _ rfl gq (kst secret s).size capq (by kernel_rfl) .i64 96 (by kernel_rfl) (by omega)) w) ?_
    refine hl_val M 15 rfl (by decide) (by kernel_rfl) (by kernel_rfl) (want_no rfl) (some 96) rfl (.string ((tB (kst secret s) K x).extract 96 (tB (kst secret s) K x).size)) (fun w M => run_part _ rfl gq (if capq = 96 then 0 else 96) ((kst secret s).size - 96) (capq - 96) (by kernel_rfl) Zr (M.get 0 rfl) capq (tB (kst secret s) K x) hZr (by have h := (ex_e (tB (kst secret s) K x) 96 capq (by rw [tB_size]; omega) (by rw [tB_size]; omega)).1; rwa [tB_size] at h ⊢) _ (by have h := (ex_e (tB (kst secret s) K x) 96 capq (by rw [tB_size]; omega) (by rw [tB_size]; omega)).2; rw [tB_size] at h ⊢; exact h)) ?_
    refine qV M 16 97 (.slice (some ⟨gq, 0, none⟩) (kst secret s).size capq) ?_
    refine hl_val M 17 rfl (by decide) (by kernel_rfl) (by kernel_rfl) (want_no rfl) (some 98) rfl (.slice (some ⟨gq, 32, none⟩) (96 - 32) (capq - 32)) (fun w _ => (run_slB 32 5 Tryz.underlying32 inz5 _ _ _ rfl gq (kst secret s).size capq (by kernel_rfl) .i64 .i64 32 96 (by kernel_rfl) (by kernel_rfl) (by decide) (by omega)) w) ?_
    refine hl_val M 18 rfl (by decide) (by kernel_rfl) (by kernel_rfl) (want_no rfl) (some 99) rfl (.string ((tB (kst secret s) K x).extract 32 96)) (fun w M => run_part _ rfl gq 32 (96 - 32) (capq - 32) (by kernel_rfl) Zr (M.get 0 rfl) capq (tB (kst secret s) K x) hZr (by rw [tB_size]; omega) _ rfl) ?_
    refine hl_one 9 (by decide) (by kernel_rfl) rfl ?_
    refine pC M 90 12 #[.string ((tB (kst secret s) K x).extract 0 32), .string ((tB (kst secret s) K x).extract 96 (tB (kst secret s) K x).size), .string ((tB (kst secret s) K x).extract 32 96)] (.bool (vfy ((tB (kst secret s) K x).extract 0 32) ((tB (kst secret s) K x).extract 96 (tB (kst secret s) K x).size) ((tB (kst secret s) K x).extract 32 96))) (fun w M => c_Verify ((tB (kst secret s) K x).extract 0 32) ((tB (kst secret s) K x).extract 96 (tB (kst secret s) K x).size) ((tB (kst secret s) K x).extract 32 96) w M.laid) fun u9 M => ?_
    refine nT ?_
    refine ⟨M, ?_⟩
    refine hl_one 19 (by decide) (by kernel_rfl) rfl ?_
    refine pC M 100 13 #[.string ((tB (kst secret s) K x).extract 0 32), .string ((tB (kst secret s) K x).extract 96 (tB (kst secret s) K x).size), .string ((tB (kst secret s) K x).extract 32 96)] (.bool (vfy ((tB (kst secret s) K x).extract 0 32) ((tB (kst secret s) K x).extract 96 (tB (kst secret s) K x).size) ((tB (kst secret s) K x).extract 32 96))) (fun w M => (by have e := c_rVerify ((tB (kst secret s) K x).extract 0 32) ((tB (kst secret s) K x).extract 96 (tB (kst secret s) K x).size) ((tB (kst secret s) K x).extract 32 96) (by rw [ByteArray.size_extract, tB_size]; omega) w M.laid; rw [rvf_eq] at e; exact e)) fun u10 M => ?_
    refine nT ?_
    refine ⟨M, ?_⟩
    refine hl_val M 20 rfl (by decide) (by kernel_rfl) (by kernel_rfl) (want_no rfl) (some 101) rfl (.bool true) (fun w _ => (fun w => Eq.trans (b := .ok (.value (.bool (vfy ((tB (kst secret s) K x).extract 0 32) ((tB (kst secret s) K x).extract 96 (tB (kst secret s) K x).size) ((tB (kst secret s) K x).extract 32 96) == vfy ((tB (kst secret s) K x).extract 0 32) ((tB (kst secret s) K x).extract 96 (tB (kst secret s) K x).size) ((tB (kst secret s) K x).extract 32 96)))) w) (by kernel_rfl) (by rw [beq_self_eq_true])) w) ?_
    refine qV M 21 102 (.bool true) ?_
    refine hl_one 22 (by decide) (by kernel_rfl) rfl ?_
    refine pl_call M (want_on 21 true rfl 102 rfl (by kernel_rfl)) (some 103) rfl 7 #[] (.bool true) (fun _ => by kernel_rfl) (fun w M => c_alive w M.laid) fun u11 M => ?_
    refine nT ?_
    refine ⟨M, ?_⟩
    refine qV M 23 104 (.bool true) ?_
    refine hl_end (by kernel_rfl) (by kernel_rfl) rfl ?_
    refine pV 8 (.bool true) <| nT ?_
    refine au_then ?_
    refine wp_ret ?_
    exact bodyPost_ret (v := .bool true) (results_tmp1 Tryz.results5 _ _ _ (by kernel_rfl)) (by kernel_rfl) ⟨rfl, below_grown M.old⟩
 ·skip
  refine rg_lit ?_
  refine pV 15 (.string secret) <| pV 16 (.int .i64 (secret.size : Int)) <| pH 17 (.bool true) (nU ((secret.size : Int) = 32) (by omega)) <| pV 18 (.bool true) ?_
  refine pl_skip (want_off 3 false rfl 18 rfl (by kernel_rfl)) (some 19) rfl ?_
  refine pl_skip (want_off 3 false rfl 18 rfl (by kernel_rfl)) (some 20) rfl ?_
  refine pl_skip (want_off 3 false rfl 18 rfl (by kernel_rfl)) (some 21) rfl ?_
  refine pV 22 (.bool true) <| nT ?_
  refine cT ?_
  refine sR ?_
  refine pC M 23 7 #[] (.bool true) (fun w M => c_alive w M.laid) fun u12 M => ?_
  refine pV 8 (.bool true) <| nT ?_
  refine wp_ret ?_
  refine au_then_ret ?_
  exact bodyPost_ret (v := .bool true) (results_tmp1 Tryz.results5 _ _ _ (by kernel_rfl)) (by kernel_rfl) ⟨rfl, below_grown M.old⟩
end Go.Proofs.YtmhfmhmpoobmlaaGreatDoor.Sha
