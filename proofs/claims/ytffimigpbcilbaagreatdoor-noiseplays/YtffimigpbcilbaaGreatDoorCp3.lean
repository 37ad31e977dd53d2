/- Part 3 of the walks and facts. -/
import Derived.Test.YtffimigpbcilbaaGreatDoorCpDef
import Derived.Test.YtffimigpbcilbaaGreatDoorCp2
import Derived.LoopNIn
import Derived.OrdersIn
import Derived.RangeFuncLeaves
import Derived.RangeFuncRecord
import Derived.Shelf.Strings.Builder2
import Derived.Shelf.Strings.BuilderK
import Derived.TacticsIn
import Derived.Test.YtffimigpbcilbaaGreatDoorProg
set_option maxHeartbeats 16000000
set_option maxRecDepth 100000
namespace Go.Proofs.YtffimigpbcilbaaGreatDoor
open Go.RowKit
theorem inz91 : (Tryz.prog.info? 91).map (·.size) = some 1 := by kernel_rfl
theorem inz5 : (Tryz.prog.info? 5).map (·.size) = some 1 := by kernel_rfl
theorem inz148 : (Tryz.prog.info? 148).map (·.size) = some 16 := by kernel_rfl
theorem inz159 : (Tryz.prog.info? 159).map (·.size) = some 64 := by kernel_rfl
theorem inz241 : (Tryz.prog.info? 241).map (·.size) = some 2 := by kernel_rfl
theorem inz242 : (Tryz.prog.info? 242).map (·.size) = some 4 := by kernel_rfl
theorem inz9 : (Tryz.prog.info? 9).map (·.size) = some 1 := by kernel_rfl
theorem inz86 : (Tryz.prog.info? 86).map (·.size) = some 1 := by kernel_rfl
theorem inz61 : (Tryz.prog.info? 61).map (·.size) = some 1 := by kernel_rfl
theorem Mem.oldc {c : Ctx} {L : List Blk} {W : World} (M : Mem c L W) {g k : Nat} {v : Value} (hc : c.w.cell? ⟨g, k, none⟩ = some v) (hr : g ∉ c.r) : W.cell? ⟨g, k, none⟩ = some v := by
 have hlt : g < c.w.heap.size := by
  refine Classical.byContradiction fun hn => ?_
  have : c.w.heap[g]? = none := Array.getElem?_eq_none (by omega)
  simp [World.cell?, this] at hc
 rw [← hc]
 unfold World.cell?
 simp only
 rw [M.old.block g hlt hr]
theorem wrap64 {x : Int} (h0 : -9223372036854775808 ≤ x) (h1 : x < 9223372036854775808) : IntKind.wrap .i64 x = x := by
 simp [IntKind.wrap, IntKind.signed, IntKind.bits, go_sem]
 omega
theorem quo4 (j : Nat) (hj : j < 1000000) : IntKind.wrap .i64 ((j : Int).tdiv 4) = ((j / 4 : Nat) : Int) := by
 rw [Int.tdiv_eq_ediv_of_nonneg (by omega), wrap64 (by omega) (by omega)]
 omega
theorem rem4 (n : Nat) : Int.tmod (n : Int) 4 = ((n % 4 : Nat) : Int) := by
 rw [Int.tmod_eq_emod_of_nonneg (by omega)]
 omega
theorem run_shlV {P : Program} {a : Act} {o : Oper} (t rt : TypeId) (x y : Operand) (ho : o.op = .binOp .shl t x y rt) (k : Int) (ky : IntKind) (m : Nat) (hx : a.eval x = .int .u32 k) (hy : a.eval y = .int ky (m : Int)) (_hm : m ≤ 32) (w : World) :
  (execOp a.eval o).run P w = .ok (.value (.int .u32 (vl k m))) w := by
 unfold execOp vl
 simp [ho, hx, hy, eqGuard, binOp]
theorem run_ixP {P : Program} {a : Act} {o : Oper} (t : TypeId) (len : Nat) (elem : TypeId) (sz : Nat) (hu : P.underlying t = some (.array len elem)) (hs : (P.info? elem).map (·.size) = some sz) (hag : ∀ w, (isAgg elem).run P w = .ok true w) (x ix : Operand) (ho : o.op = .index t x ix) (F : NV) (n : Nat) (hx : a.eval x = .agg (av n F)) (k : IntKind) (i : Nat) (hi : a.eval ix = .int k (i : Int)) (hlt : i < len) (hn : i * sz + sz ≤ n) (w : World) :
  (execOp a.eval o).run P w = .ok (.value (.agg (av sz (fun j => F (i * sz + j))))) w := by
 have he : (av n F).extract (i * sz) (i * sz + sz) = av sz (fun j => F (i * sz + j)) := by
  apply Array.ext_getElem?
  intro j
  rw [Array.getElem?_extract]
  by_cases hj : j < sz
  ·rw [if_pos (by rw [av_size]; omega), av_get _ _ _ (by omega), av_get _ _ _ hj]
  ·rw [if_neg (by rw [av_size]; omega), Array.getElem?_eq_none (by rw [av_size]; omega)]
 cases hq : P.info? elem with
 | none => simp [hq] at hs
 | some u =>
  have hsz : u.size = sz := by simpa [hq] using hs
  unfold execOp
  simp [ho, hx, hi, Instr.index, asIntOf, run_underlying hu, sizeOf, typeInfo, hq, hsz, hlt, part, hag, he]
theorem pl_laid {P : Program} {ops : Array Oper} {rest : List Oper} {o : Oper} {a : Act} {w : World} {c : Ctx} {L : List Blk} {Q : Exit → Act → World → Prop} (M : Mem c L w) (hw : Region.wanted o (yielded ops a.tmps) = true) (d : Option Tmp) (hd : o.dst = d) (ty : TypeId) (x : Operand) (ho : o.op = .load ty x) (hx : a.eval x = pJ 2) (t : TypeDesc) (hu : P.underlying ty = some t) (ht : t.isRow = true) (hz : (P.info? ty).map (·.size) = some 4)
  (h : PL P ops Q rest (a.put d (.agg (av 4 (wi TF)))) w) : PL P ops Q (o :: rest) a w := by
 refine pl_to hw d hd _ w ?_ h
 unfold execOp
 have hl := run_loadAt_mid (P := P) w 2 0 ty (av 4 (wi TF)).toList t (fun j v hv => by
  obtain ⟨hj, rfl⟩ := av_toList_get _ _ _ _ hv
  rw [Nat.zero_add]
  exact M.laid.t j hj) hu ht (by rw [hz]; simp [av_size])
 simp only [ho, hx, Sem.run_bind, hl, Result.andThen_ok, Sem.run_pure, Array.toArray_toList]
theorem run_ixL {P : Program} {a : Act} {o : Oper} (t elem : TypeId) (hu : P.underlying t = some (.slice elem)) (hs : (P.info? elem).map (·.size) = some 1) (x ix : Operand) (ho : o.op = .indexAddr t x ix) (g off len cap : Nat) (hx : a.eval x = .slice (some ⟨g, off, none⟩) len cap) (k : IntKind) (i : Nat) (hi : a.eval ix = .int k (i : Int)) (hlt : i < len) (w : World) :
  (execOp a.eval o).run P w = .ok (.value (.pointer (some ⟨g, off + i, none⟩))) w := by
 cases hq : P.info? elem with
 | none => simp [hq] at hs
 | some u =>
  have hsz : u.size = 1 := by simpa [hq] using hs
  unfold execOp
  simp [ho, hx, hi, Instr.indexAt, asIntOf, run_underlying hu, sizeOf, typeInfo, hq, hsz, add_at, hlt]
theorem quo64 (j : Nat) (hj : j < 1000000) : IntKind.wrap .i64 ((j : Int).tdiv 64) = ((j / 64 : Nat) : Int) := by
 rw [Int.tdiv_eq_ediv_of_nonneg (by omega), wrap64 (by omega) (by omega)]
 omega
theorem rem64 (n : Nat) : Int.tmod (n : Int) 64 = ((n % 64 : Nat) : Int) := by
 rw [Int.tmod_eq_emod_of_nonneg (by omega)]
 omega
theorem run_strl {P : Program} {a : Act} {o : Oper} (t : TypeId) (hu : P.underlying t = some .string) (x lo : Operand) (ho : o.op = .slice t x (some lo) none none) (s : Yb) (hx : a.eval x = .string s) (k : IntKind) (i : Nat) (hi : a.eval lo = .int k (i : Int)) (hle : i ≤ s.size) (v : Yb) (hv : s.extract i s.size = v) (w : World) :
  (execOp a.eval o).run P w = .ok (.value (.string v)) w := by
 subst hv
 unfold execOp
 simp [ho, hx, hi, run_sliceAt_string w t (.string s) (some (.int k i)) none none hu, run_slice_string_l w t s hu k i (by omega) (by omega)]
theorem run_strh {P : Program} {a : Act} {o : Oper} (t : TypeId) (hu : P.underlying t = some .string) (x hi : Operand) (ho : o.op = .slice t x none (some hi) none) (s : Yb) (hx : a.eval x = .string s) (k : IntKind) (i : Nat) (hh : a.eval hi = .int k (i : Int)) (hle : i ≤ s.size) (v : Yb) (hv : s.extract 0 i = v) (w : World) :
  (execOp a.eval o).run P w = .ok (.value (.string v)) w := by
 subst hv
 unfold execOp
 simp [ho, hx, hh, run_sliceAt_string w t (.string s) none (some (.int k i)) none hu, run_slice_string_h w t s hu k i (by omega) (by omega)]
theorem run_cat {P : Program} {a : Act} {o : Oper} (t rt : TypeId) (x y : Operand) (ho : o.op = .binOp .add t x y rt) (s u : Yb) (hx : a.eval x = .string s) (hy : a.eval y = .string u) (hb : s.size + u.size ≤ 9223372036854775807) (w : World) :
  (execOp a.eval o).run P w = .ok (.value (.string (s ++ u))) w := by
 have h := run_string_add_sum (P := P) (w := w) s u hb
 unfold execOp
 simp [ho, hx, hy, eqGuard, binOp, h]
theorem vo_comm (x y : Int) : vo x y = vo y x := by
 unfold vo
 rw [BitVec.or_comm]
theorem va_eq (x y : Int) : va x y = (x + y) % 4294967296 := by
 unfold va
 simp [IntKind.wrap, IntKind.signed, IntKind.bits]
theorem wrap32_nat (n : Nat) (h : n < 4294967296) : IntKind.wrap .u32 (n : Int) = (n : Int) := by
 simp [IntKind.wrap, IntKind.signed, IntKind.bits]
 omega
theorem ofInt_nat (b : BitVec 32) : BitVec.ofInt 32 (b.toNat : Int) = b := by
 apply BitVec.eq_of_toNat_eq
 rw [BitVec.toNat_ofInt]
 have := b.isLt
 omega
theorem vx_assoc (x y z : Int) : vx (vx x y) z = vx x (vx y z) := by
 have key : ∀ b : BitVec 32, IntKind.wrap .u32 (b.toNat : Int) = (b.toNat : Int) := fun b => wrap32_nat _ b.isLt
 unfold vx
 simp only [key, ofInt_nat, BitVec.xor_assoc]
theorem run_ixS {P : Program} {a : Act} {o : Oper} (t : TypeId) (hu : P.underlying t = some .string) (x ix : Operand) (ho : o.op = .index t x ix) (s : Yb) (hx : a.eval x = .string s) (k : IntKind) (i : Nat) (hi : a.eval ix = .int k (i : Int)) (hlt : i < s.size) (w : World) :
  (execOp a.eval o).run P w = .ok (.value (.int .u8 (bt s i))) w := by
 have e : s[i]? = some s[i] := ByteArray.getElem?_lt' s i hlt
 have e2 : bt s i = (s[i].toNat : Int) := by
  unfold bt
  rw [Array.getElem?_eq_getElem hlt]
  rfl
 unfold execOp
 simp [ho, hx, hi, Instr.index, asIntOf, run_underlying hu, e, e2]
theorem run_shrV {P : Program} {a : Act} {o : Oper} (t rt : TypeId) (x y : Operand) (ho : o.op = .binOp .shr t x y rt) (k : Int) (ky : IntKind) (m : Nat) (hx : a.eval x = .int .u32 k) (hy : a.eval y = .int ky (m : Int)) (_hm : m ≤ 32) (w : World) :
  (execOp a.eval o).run P w = .ok (.value (.int .u32 (sr k m))) w := by
 have hp : (0 : Int) ≤ 2 ^ m := Int.le_of_lt (Int.pow_pos (by decide))
 unfold execOp sr
 rw [Int.fdiv_eq_ediv_of_nonneg k hp]
 simp [ho, hx, hy, eqGuard, binOp]
theorem run_strlh {P : Program} {a : Act} {o : Oper} (t : TypeId) (hu : P.underlying t = some .string) (x lo hi : Operand) (ho : o.op = .slice t x (some lo) (some hi) none) (s : Yb) (hx : a.eval x = .string s) (k k' : IntKind) (i j : Nat) (hl : a.eval lo = .int k (i : Int)) (hh : a.eval hi = .int k' (j : Int)) (hij : i ≤ j) (hle : j ≤ s.size) (w : World) :
  (execOp a.eval o).run P w = .ok (.value (.string (s.extract i j))) w := by
 unfold execOp
 simp [ho, hx, hl, hh, run_sliceAt_string w t (.string s) (some (.int k i)) (some (.int k' j)) none hu, run_slice_string w t s k k' i j hu (by omega) (by omega) (by omega)]
def xb (x y : Int) : Int := IntKind.wrap .u8 (BitVec.ofInt 8 x ^^^ BitVec.ofInt 8 y).toNat
theorem sb_av (n : Nat) (F : NI) (T : TypeId) : SB (.cells (av n (w8 F)) T) n (vs8 ((List.range n).map F)) := ⟨_, T, (0, 0), rfl, by simp [vs8], by rw [av_size]; exact Nat.le_refl _, fun i hi => by
 simp [vs8] at hi
 simp [vs8, av, w8, hi], fun i _ => by simp⟩
theorem run_ix0 {P : Program} {a : Act} {o : Oper} (t elem : TypeId) (hu : P.underlying t = some (.slice elem)) (hs : (P.info? elem).map (·.size) = some 1) (x ix : Operand) (ho : o.op = .indexAddr t x ix) (g len cap : Nat) (hx : a.eval x = .slice (some ⟨g, 0, none⟩) len cap) (k : IntKind) (i : Nat) (hi : a.eval ix = .int k (i : Int)) (hlt : i < len) (w : World) :
  (execOp a.eval o).run P w = .ok (.value (pJ g i)) w := by
 have h := run_ixL (P := P) t elem hu hs x ix ho g 0 len cap hx k i hi hlt w
 rwa [Nat.zero_add] at h
theorem xb_nn (x y : Int) : 0 ≤ xb x y ∧ xb x y < 256 := by
 unfold xb
 simp [IntKind.wrap, IntKind.signed, IntKind.bits]
 omega
open Go.Shelf
def bF0 : Nat → Value := fun i => if i = 0 then .pointer none else .slice none 0 0
section
variable {P : Program} {ops : Array Oper} {rest : List Oper} {o : Oper} {a : Act} {w : World} {c : Ctx} {L : List Blk} {Q : Exit → Act → World → Prop} {K : Act → World → Prop} {J : Act → World → Prop}
theorem pl_newB (M : Mem c L w) (hw : Region.wanted o (yielded ops a.tmps) = true) (d : Option Tmp) (hd : o.dst = d) (Z : Obj) (hrun : ∀ w, (execOp a.eval o).run P w = .ok (.value (.pointer (some ⟨w.heap.size, 0, none⟩))) (w.alloc Z))
  (h : ∀ g w', (∀ b ∈ L, b.g < g) → Mem c (L ++ [⟨g, Z⟩]) w' → PL P ops Q rest (a.put d (pJ g)) w') : PL P ops Q (o :: rest) a w :=
 pl_to hw d hd _ _ (hrun w) (h w.heap.size _ (fun _ hb => M.lt hb) (M.new _ _ (new_below w _) (heap_alloc_new w _) (Nat.le_refl _)))
theorem pl_callr (hw : Region.wanted o (yielded ops a.tmps) = true) (d : Option Tmp) (hd : o.dst = d) (f : FuncId) (args : Array Value) (v : Value) (R : World → Prop) (hrun : ∀ w, (execOp a.eval o).run P w = .ok (.enter f args) w)
  (hc : Calls P f args w fun e w' => e = .returned v ∧ R w') (h : ∀ w', R w' → PL P ops Q rest (a.put d v) w') : PL P ops Q (o :: rest) a w :=
 pl_callq hw d hd f args hrun (hc.mono fun _ w' ⟨he, hr⟩ => ⟨v, he, h w' hr⟩)
end
theorem owns_keep {w w' : World} {B : Nat} {e : TypeId} {v : Value} {n : Nat} {xs : List Value} (h : w.ownsRow B e 1 v n xs) (hb : Below w.heap.size w w') : w'.ownsRow B e 1 v n xs := by
 obtain ⟨h1, h2⟩ := h
 refine ⟨h1, ?_⟩
 rcases h2 with h2 | ⟨g, cap, cur, h3, h4, h5, h6⟩
 ·exact .inl h2
 ·exact .inr ⟨g, cap, cur, h3, h4, by rw [hb.block g (Array.getElem?_eq_some_iff.1 h5).1]; exact h5, h6⟩
theorem bat_keep {w w' : World} {T e : TypeId} {B b : Nat} {p : Value} {xs : List Value} (h : Lib.BuilderAt T e B b p xs w) (hb : Below w.heap.size w w') : Lib.BuilderAt T e B b p xs w' := by
 obtain ⟨h1, v, h2, h3, h4⟩ := h
 exact ⟨h1, v, by rw [hb.block b (Array.getElem?_eq_some_iff.1 h2).1]; exact h2, owns_keep h3 hb, h4⟩
theorem isb_keep {w w' : World} {T e : TypeId} {B b : Nat} {xs : List Value} (h : Lib.IsBuilder T e B b xs w) (hb : Below w.heap.size w w') : Lib.IsBuilder T e B b xs w' := h.imp (bat_keep · hb) (bat_keep · hb)
theorem isb_lt {w : World} {T e : TypeId} {B b : Nat} {xs : List Value} (h : Lib.IsBuilder T e B b xs w) : b < w.heap.size := h.elim Lib.BuilderAt.lt Lib.BuilderAt.lt
theorem same1 {w w' : World} {g : Nat} {Z : Obj} (h : Grw w w' [g]) (h1 : w.heap[g]? = some Z) (h2 : w'.heap[g]? = some Z) : Below w.heap.size w w' := ⟨h.os, h.tape, h.output, h.size, fun j hj => by
 by_cases e : j = g
 ·subst e
  rw [h1, h2]
 ·exact h.block j hj (by simp [e])⟩
theorem below_laid {w u : World} (h : Below w.heap.size w u) (hL : Laid w) : Laid u := hL.of fun k hk => h.block k (Nat.lt_of_lt_of_le hk hL.lt)
open Go.RowKit
def rl (x : Int) (n : Nat) : Int := vo (vl x n) (sr x (32 - n))
def tr0 : Nat → Value := wi fun j => TF (0 * 2 + j)
def tr1 : Nat → Value := wi fun j => TF (1 * 2 + j)
def mA1 (v : NI) (i j : Nat) : Int := va (v i) (v j)
def mD1 (v : NI) (i j l : Nat) : Int := rl (vx (v l) (mA1 v i j)) 16
def mC1 (v : NI) (i j k l : Nat) : Int := va (v k) (mD1 v i j l)
def mB1 (v : NI) (i j k l : Nat) : Int := rl (vx (v j) (mC1 v i j k l)) 12
def mA2 (v : NI) (i j k l : Nat) : Int := va (mA1 v i j) (mB1 v i j k l)
def mD2 (v : NI) (i j k l : Nat) : Int := rl (vx (mD1 v i j l) (mA2 v i j k l)) 8
def mC2 (v : NI) (i j k l : Nat) : Int := va (mC1 v i j k l) (mD2 v i j k l)
def mB2 (v : NI) (i j k l : Nat) : Int := rl (vx (mB1 v i j k l) (mC2 v i j k l)) 7
def mxF (v : NI) (i j k l : Nat) : Nat → Int := upd (upd (upd (upd v i (mA2 v i j k l)) j (mB2 v i j k l)) k (mC2 v i j k l)) l (mD2 v i j k l)
theorem c_rl16 (x : Int) (w : World) (hL : Laid w)  : Cs 172 #[.int .u32 x, .int .i64 16] w (.int .u32 (rl x 16)) := by
 go_enter Tryz.func172, Tryz.ntmps172
 have M := Mem.start hL
 refine sq <| sq <| sq <| wp_ret ?_
 exact b1 M
theorem c_rl12 (x : Int) (w : World) (hL : Laid w)  : Cs 172 #[.int .u32 x, .int .i64 12] w (.int .u32 (rl x 12)) := by
 go_enter Tryz.func172, Tryz.ntmps172
 have M := Mem.start hL
 refine sq <| sq <| sq <| wp_ret ?_
 exact b1 M
theorem c_rl8 (x : Int) (w : World) (hL : Laid w)  : Cs 172 #[.int .u32 x, .int .i64 8] w (.int .u32 (rl x 8)) := by
 go_enter Tryz.func172, Tryz.ntmps172
 have M := Mem.start hL
 refine sq <| sq <| sq <| wp_ret ?_
 exact b1 M
theorem c_rl7 (x : Int) (w : World) (hL : Laid w)  : Cs 172 #[.int .u32 x, .int .i64 7] w (.int .u32 (rl x 7)) := by
 go_enter Tryz.func172, Tryz.ntmps172
 have M := Mem.start hL
 refine sq <| sq <| sq <| wp_ret ?_
 exact b1 M
theorem c_mix (v : NI) (p0 p1 p2 p3 : Nat) (h4 : p0 < 16) (h1 : p1 < 16) (h2 : p2 < 16) (h3 : p3 < 16) (g : Nat) (w : World) (hL : Laid w) (hg : w.heap[g]? = some (.cells (av 16 (w32 v)) 149)) (h0 : 2 < g) : Calls Tryz.prog 175 #[pJ g, .int .i64 (p0 : Int), .int .i64 (p1 : Int), .int .i64 (p2 : Int), .int .i64 (p3 : Int)] w fun r w' => r = .returned (.tuple #[]) ∧ Grw w w' [g] ∧ w'.heap[g]? = some (.cells (av 16 (w32 (mxF v p0 p1 p2 p3))) 149) := by
 go_enter Tryz.func175, Tryz.ntmps175
 have M := Mem.startp hL hg h0
 refine wp_seq <| rgh M [⟨g, .cells (av 16 (w32 v)) 149⟩] 23 fun u1 M => qV M 0 16 (pJ g) <| qV M 1 17 (.int .i64 (p0 : Int)) <| qV M 2 18 (pJ g) <| qH M 3 19 (pJ g p0) (fun w _ => (run_ix1 149 16 91 Tryz.underlying149 inz91 _ _ rfl g (by kernel_rfl) .i64 (p0) (by kernel_rfl) (by omega)) w) <| qE M 4 20 0 p0 <| qV M 5 21 (pJ g) <| qV M 6 22 (.int .i64 (p1 : Int)) <| qV M 7 23 (pJ g) <| qH M 8 24 (pJ g p1) (fun w _ => (run_ix1 149 16 91 Tryz.underlying149 inz91 _ _ rfl g (by kernel_rfl) .i64 (p1) (by kernel_rfl) (by omega)) w) <| qE M 9 25 0 p1 <| qV M 10 26 (pJ g) <| qV M 11 27 (.int .i64 (p2 : Int)) <| qV M 12 28 (pJ g) <| qH M 13 29 (pJ g p2) (fun w _ => (run_ix1 149 16 91 Tryz.underlying149 inz91 _ _ rfl g (by kernel_rfl) .i64 (p2) (by kernel_rfl) (by omega)) w) ?_
 refine qE M 14 30 0 p2 <| qV M 15 31 (pJ g) <| qV M 16 32 (.int .i64 (p3 : Int)) <| qV M 17 33 (pJ g) <| qH M 18 34 (pJ g p3) (fun w _ => (run_ix1 149 16 91 Tryz.underlying149 inz91 _ _ rfl g (by kernel_rfl) .i64 (p3) (by kernel_rfl) (by omega)) w) <| qE M 19 35 0 p3 <| qV M 20 10 (.int .u32 (v p0)) <| qV M 21 11 (.int .u32 (v p1)) <| qV M 22 12 (.int .u32 (v p2)) <| qZ ?_
 refine rV 1 <| nT <| au_then <| wp_seq <| sR <| pl_laid M (want_no rfl) (some 36) rfl 242 _ rfl (by kernel_rfl) _ Tryz.underlying242 rfl inz242 <| rV 1 <| nT <| wp_block <| wp_loop_rounds 3 ?_
 refine rounds_go <| sq <| wp_seq <| cT <| wp_skip <| au_then <| wp_seq <| wp_block <| sR <| pH 39 (.agg (av 2 tr0)) (fun w => Eq.trans (run_ixP 242 2 241 2 Tryz.underlying242 inz241 (fun _ => by kernel_rfl) _ _ rfl (wi TF) 4 (by kernel_rfl) .i64 0 (by kernel_rfl) (by omega) (by omega) w) (by kernel_rfl)) <| pN M 15 (.cells (av 2 (wi (fun _ => 0))) 241) fun g1 u2 M => ZG M 1 2 tr0 fun u3 M => nT <| sq <| sR <| rV 4 ?_
 refine ZE M 47 1 0 <| pC M 48 172 #[.int .u32 (vx (v p3) (mA1 v p0 p1)), .int .i64 16] (.int .u32 (mD1 v p0 p1 p3)) (fun w M => c_rl16 _ w M.laid) fun u4 M => rV 1 <| nT <| sq <| rg_lit <| rV 4 <| ZE M 56 1 1 <| pC M 57 172 #[.int .u32 (vx (v p1) (mC1 v p0 p1 p2 p3)), .int .i64 12] (.int .u32 (mB1 v p0 p1 p2 p3)) (fun w M => c_rl12 _ w M.laid) fun u5 M => rV 1 <| pl_nil <| au_block <| au_then <| rg_lit <| rV 2 <| nT ?_
 refine rounds_go <| sq <| wp_seq <| cT <| wp_skip <| au_then <| wp_seq <| wp_block <| sR <| pH 39 (.agg (av 2 tr1)) (fun w => Eq.trans (run_ixP 242 2 241 2 Tryz.underlying242 inz241 (fun _ => by kernel_rfl) _ _ rfl (wi TF) 4 (by kernel_rfl) .i64 1 (by kernel_rfl) (by omega) (by omega) w) (by kernel_rfl)) <| pN M 15 (.cells (av 2 (wi (fun _ => 0))) 241) fun g2 u6 M => ZG M 2 2 tr1 fun u7 M => nT <| sq <| sR <| rV 4 ?_
 refine ZE M 47 2 0 <| pC M 48 172 #[.int .u32 (vx (mD1 v p0 p1 p3) (mA2 v p0 p1 p2 p3)), .int .i64 8] (.int .u32 (mD2 v p0 p1 p2 p3)) (fun w M => c_rl8 _ w M.laid) fun u8 M => rV 1 <| nT <| sq <| rg_lit <| rV 4 <| ZE M 56 2 1 <| pC M 57 172 #[.int .u32 (vx (mB1 v p0 p1 p2 p3) (mC2 v p0 p1 p2 p3)), .int .i64 7] (.int .u32 (mB2 v p0 p1 p2 p3)) (fun w M => c_rl7 _ w M.laid) fun u9 M => rV 1 <| pl_nil <| au_block <| au_then <| rg_lit <| rV 2 <| nT ?_
 refine rounds_go <| sq <| wp_seq <| cF <| wp_exit <| au_then_exit <| au_then_exit <| au_block_exit <| au_then <| rgh M [⟨g1, .cells (av 2 tr0) 241⟩, ⟨g2, .cells (av 2 tr1) 241⟩] 23 fun u10 M => ?_
 have qM := M.drop (.cons _ (.cons_cons _ (.cons_cons _ (.slnil))))
 refine qV qM 0 59 (pJ g) <| qV qM 1 60 (.int .i64 (p0 : Int)) <| qV qM 2 61 (pJ g) <| qV qM 3 62 (.int .i64 (p1 : Int)) <| qV qM 4 63 (pJ g) <| qV qM 5 64 (.int .i64 (p2 : Int)) <| qV qM 6 65 (pJ g) <| qV qM 7 66 (.int .i64 (p3 : Int)) <| qV qM 8 67 (.int .u32 (mA2 v p0 p1 p2 p3)) <| qV qM 9 68 (.int .u32 (mB2 v p0 p1 p2 p3)) <| qV qM 10 69 (.int .u32 (mC2 v p0 p1 p2 p3)) <| qV qM 11 70 (.int .u32 (mD2 v p0 p1 p2 p3)) <| qV qM 12 71 (pJ g) <| qH qM 13 72 (pJ g p0) (fun w _ => (run_ix1 149 16 91 Tryz.underlying149 inz91 _ _ rfl g (by kernel_rfl) .i64 (p0) (by kernel_rfl) (by omega)) w) <| qV qM 15 73 (pJ g) <| qV qM 18 75 (pJ g) ?_
 refine qV qM 21 77 (pJ g) <| qO 14 ?_
 refine ZP32 M 0 p0 (mA2 v p0 p1 p2 p3) fun u11 M => nT ?_
 refine ⟨(M.drop (.cons _ (.cons_cons _ (.cons_cons _ (.slnil))))), ?_⟩
 refine qH (M.drop (.cons _ (.cons_cons _ (.cons_cons _ (.slnil))))) 16 74 (pJ g p1) (fun w _ => (run_ix1 149 16 91 Tryz.underlying149 inz91 _ _ rfl g (by kernel_rfl) .i64 (p1) (by kernel_rfl) (by omega)) w) <| qO 17 ?_
 refine ZP32 M 0 p1 (mB2 v p0 p1 p2 p3) fun u12 M => nT ?_
 refine ⟨(M.drop (.cons _ (.cons_cons _ (.cons_cons _ (.slnil))))), ?_⟩
 refine qH (M.drop (.cons _ (.cons_cons _ (.cons_cons _ (.slnil))))) 19 76 (pJ g p2) (fun w _ => (run_ix1 149 16 91 Tryz.underlying149 inz91 _ _ rfl g (by kernel_rfl) .i64 (p2) (by kernel_rfl) (by omega)) w) <| qO 20 ?_
 refine ZP32 M 0 p2 (mC2 v p0 p1 p2 p3) fun u13 M => nT ?_
 refine ⟨(M.drop (.cons _ (.cons_cons _ (.cons_cons _ (.slnil))))), ?_⟩
 refine qH (M.drop (.cons _ (.cons_cons _ (.cons_cons _ (.slnil))))) 22 78 (pJ g p3) (fun w _ => (run_ix1 149 16 91 Tryz.underlying149 inz91 _ _ rfl g (by kernel_rfl) .i64 (p3) (by kernel_rfl) (by omega)) w) <| qZ ?_
 refine ZP32 M 0 p3 (mD2 v p0 p1 p2 p3) fun u14 M => nT ?_
 exact bodyPost_end (v := .tuple #[]) (results_none Tryz.results175 _ _) (by kernel_rfl) ⟨rfl, M.old, M.get 0 rfl⟩
def rn1 (v : NI) : Nat → Int := mxF v 0 4 8 12
def rn2 (v : NI) : Nat → Int := mxF (rn1 v) 1 5 9 13
def rn3 (v : NI) : Nat → Int := mxF (rn2 v) 2 6 10 14
def rn4 (v : NI) : Nat → Int := mxF (rn3 v) 3 7 11 15
def rn5 (v : NI) : Nat → Int := mxF (rn4 v) 0 5 10 15
def rn6 (v : NI) : Nat → Int := mxF (rn5 v) 1 6 11 12
def rn7 (v : NI) : Nat → Int := mxF (rn6 v) 2 7 8 13
def rn8 (v : NI) : Nat → Int := mxF (rn7 v) 3 4 9 14
def rd (v : NI) : Nat → (Nat → Int)
 | 0 => v
 | j + 1 => rn8 (rd v j)
theorem c_round (v : NI) (g : Nat) (w : World) (hL : Laid w) (hg : w.heap[g]? = some (.cells (av 16 (w32 v)) 149)) (h0 : 2 < g) : Calls Tryz.prog 163 #[pJ g] w fun r w' => r = .returned (.tuple #[]) ∧ Grw w w' [g] ∧ w'.heap[g]? = some (.cells (av 16 (w32 (rn8 v))) 149) := by
 go_enter Tryz.func163, Tryz.ntmps163
 have M := Mem.startp hL hg h0
 refine sR <| rV 1 <| ZY M 3 0 (.tuple #[]) (.cells (av 16 (w32 (rn1 v))) 149) (fun w M => c_mix v 0 4 8 12 (by decide) (by decide) (by decide) (by decide) g w M.laid (M.get 0 rfl) (M.ne0 0 rfl)) fun u1 M => nT <| sR <| rV 1 <| ZY M 5 0 (.tuple #[]) (.cells (av 16 (w32 (rn2 v))) 149) (fun w M => c_mix (rn1 v) 1 5 9 13 (by decide) (by decide) (by decide) (by decide) g w M.laid (M.get 0 rfl) (M.ne0 0 rfl)) fun u2 M => nT <| sR <| rV 1 <| ZY M 7 0 (.tuple #[]) (.cells (av 16 (w32 (rn3 v))) 149) (fun w M => c_mix (rn2 v) 2 6 10 14 (by decide) (by decide) (by decide) (by decide) g w M.laid (M.get 0 rfl) (M.ne0 0 rfl)) fun u3 M => nT <| sR <| rV 1 <| ZY M 9 0 (.tuple #[]) (.cells (av 16 (w32 (rn4 v))) 149) (fun w M => c_mix (rn3 v) 3 7 11 15 (by decide) (by decide) (by decide) (by decide) g w M.laid (M.get 0 rfl) (M.ne0 0 rfl)) fun u4 M => nT ?_
 refine sR <| rV 1 <| ZY M 11 0 (.tuple #[]) (.cells (av 16 (w32 (rn5 v))) 149) (fun w M => c_mix (rn4 v) 0 5 10 15 (by decide) (by decide) (by decide) (by decide) g w M.laid (M.get 0 rfl) (M.ne0 0 rfl)) fun u5 M => nT <| sR <| rV 1 <| ZY M 13 0 (.tuple #[]) (.cells (av 16 (w32 (rn6 v))) 149) (fun w M => c_mix (rn5 v) 1 6 11 12 (by decide) (by decide) (by decide) (by decide) g w M.laid (M.get 0 rfl) (M.ne0 0 rfl)) fun u6 M => nT <| sR <| rV 1 <| ZY M 15 0 (.tuple #[]) (.cells (av 16 (w32 (rn7 v))) 149) (fun w M => c_mix (rn6 v) 2 7 8 13 (by decide) (by decide) (by decide) (by decide) g w M.laid (M.get 0 rfl) (M.ne0 0 rfl)) fun u7 M => nT <| rg_lit <| rV 1 <| ZY M 17 0 (.tuple #[]) (.cells (av 16 (w32 (rn8 v))) 149) (fun w M => c_mix (rn7 v) 3 4 9 14 (by decide) (by decide) (by decide) (by decide) g w M.laid (M.get 0 rfl) (M.ne0 0 rfl)) fun u8 M => pl_nil ?_
 exact bodyPost_end (v := .tuple #[]) (results_none Tryz.results163 _ _) (by kernel_rfl) ⟨rfl, M.old, M.get 0 rfl⟩
def pw (v : NI) (p : Nat) (b : NI) : Nat → (Nat → Int)
 | 0 => v
 | j + 1 => upd (pw v p b j) (p + j / 4) (vo (pw v p b j (p + j / 4)) (vl (cv .u32 (b j)) (j % 4 * 8)))
theorem c_put (v : NI) (p : Nat) (s : Yb) (hp : p + (s.size + 3) / 4 ≤ 16) (g : Nat) (w : World) (hL : Laid w) (hg : w.heap[g]? = some (.cells (av 16 (w32 v)) 149)) (h0 : 2 < g) : Calls Tryz.prog 132 #[pJ g, .int .i64 (p : Int), .string s] w fun r w' => r = .returned (.tuple #[]) ∧ Grw w w' [g] ∧ w'.heap[g]? = some (.cells (av 16 (w32 (pw v p (bt s) s.size))) 149) := by
 go_enter Tryz.func132, Tryz.ntmps132
 have M := Mem.startp hL hg h0
 refine sq <| wp_block ?_
 refine au_loop (fun j a w' => ∃ v1 : NV, a = (fm ([pJ g, .int .i64 (p : Int), .string s] ++ vr v1 3 5 ++ [.int .i64 (s.size : Int), .int .i64 (j : Int)] ++ vr v1 10 22)) ∧ Mem ⟨w, [g]⟩ [⟨g, .cells (av 16 (w32 (pw v p (bt s) j))) 149⟩] w') s.size (exS M) ?_ ?_
 ·intro j a u0 hj hI
  obtain ⟨v1, rfl, M⟩ := hI
  refine sR <| ZT 10 ((j : Int) < (s.size : Int)) <| nT <| wp_seq <| cT <| wp_skip <| au_then <| wp_seq <| wp_block <| sq <| rg_tail M 19 (by kernel_rfl) (by kernel_rfl) ?_
  simp only [List.take_succ_cons, List.take_zero]
  refine kR 3 <| eQ 15 .i64 (IntKind.wrap .i64 ((j : Int).tdiv 4)) (quo4 j (by omega)) <| eI 16 ((p : Int) + ((j / 4 : Nat) : Int)) ((p + j / 4 : Nat) : Int) <| kR 1 <| eX 18 .i64 g ((p + j / 4 : Nat)) 16 <| eE M 19 0 ((p + j / 4 : Nat)) <| kR 2 <| kH 22 (.int .u8 (bt s j)) (run_ixS 9 Tryz.underlying9 _ _ rfl s (by kernel_rfl) .i64 j (by kernel_rfl) hj) <| kR 2 <| eQ 25 .i64 (Int.tmod (j : Int) 4) (rem4 j) <| eI 26 (((j % 4 : Nat) : Int) * 8) ((j % 4 * 8 : Nat) : Int) <| kH 27 (.int .u32 (vl (cv .u32 (bt s j)) (j % 4 * 8))) (run_shlV 91 3 _ _ rfl _ .i64 (j % 4 * 8) (by kernel_rfl) (by kernel_rfl) (by omega)) <| kR 2 <| eX 30 .i64 g ((p + j / 4 : Nat)) 16 <| kl_nil fun u1 M => ZP32 M 0 ((p + j / 4 : Nat)) (vo ((pw v p (bt s) j) ((p + j / 4 : Nat))) (vl (cv .u32 (bt s j)) (j % 4 * 8))) fun u2 M => ?_
  refine pl_nil <| au_block <| au_then <| rg_lit <| ZI 31 ((j : Int) + 1) ((j + 1 : Nat) : Int) <| rV 1 <| nT ?_
  exact exS M
 ·intro a u0 hI
  obtain ⟨v1, rfl, M⟩ := hI
  refine sR <| ZF 10 ((s.size : Int) < (s.size : Int)) <| nT <| wp_seq <| cF <| wp_exit <| au_then_exit <| au_then_exit <| au_block_exit ?_
  exact bodyPost_end (v := .tuple #[]) (results_none Tryz.results132 _ _) (by kernel_rfl) ⟨rfl, M.old, M.get 0 rfl⟩
def strK : ByteArray := ⟨#[101, 120, 112, 97, 110, 100, 32, 51, 50, 45, 98, 121, 116, 101, 32, 107]⟩
def f1 : Nat → Int := pw (fun _ => 0) 0 (bt strK) 16
def f2 (key : Yb) : Nat → Int := pw f1 4 (bt key) key.size
def fw (key nonce : Yb) (n : Int) : Nat → Int := pw (upd (f2 key) 12 n) 13 (bt nonce) nonce.size
theorem c_first (key nonce : Yb) (n : Int) (hk : key.size = 32) (hn : nonce.size = 12) (w : World) (hL : Laid w)  : Cs 101 #[.string key, .string nonce, .int .u32 n] w (.agg (av 16 (w32 (fw key nonce n)))) := by
 go_enter Tryz.func101, Tryz.ntmps101
 have M := Mem.start hL
 refine sR <| pN M 6 (.cells (av 16 (w32 (fun _ => 0))) 149) fun g1 u1 M => nT <| sR <| pN M 7 (.cells (av 16 (w32 (fun _ => 0))) 149) fun g2 u2 M => nT <| sR <| ZY M 8 1 (.tuple #[]) (.cells (av 16 (w32 f1)) 149) (fun w M => c_put (fun _ => 0) 0 strK (by decide) g2 w M.laid (M.get 1 rfl) (M.ne0 1 rfl)) fun u3 M => nT <| sR <| rV 1 <| ZY M 10 1 (.tuple #[]) (.cells (av 16 (w32 (f2 key))) 149) (fun w M => c_put f1 4 key (by omega) g2 w M.laid (M.get 1 rfl) (M.ne0 1 rfl)) fun u4 M => nT <| sR <| rV 2 <| ZP32 M 1 12 n fun u5 M => ?_
 refine nT <| sR <| rV 1 <| ZY M 14 1 (.tuple #[]) (.cells (av 16 (w32 (fw key nonce n))) 149) (fun w M => c_put (upd (f2 key) 12 n) 13 nonce (by omega) g2 w M.laid (M.get 1 rfl) (M.ne0 1 rfl)) fun u6 M => nT <| sR <| pA M 15 1 16 (w32 (fw key nonce n)) <| ZG M 0 16 (w32 (fw key nonce n)) fun u7 M => nT <| wp_ret ?_
 exact bc Tryz.results101 M 0 16 (w32 (fw key nonce n)) ⟨rfl, below_grown M.old⟩
def bk (f v : NI) : Nat → (Nat → Int)
 | 0 => fun _ => 0
 | j + 1 => upd (bk f v j) j (cv .u8 (sr (va (v (j / 4)) (f (j / 4))) (j % 4 * 8)))
def bl (f : NI) (i : Nat) : Int := cv .u8 (sr (va (rd f 10 (i / 4)) (f (i / 4))) (i % 4 * 8))
theorem bk_at (f v : NI) : ∀ n, ∀ i, i < n → bk f v n i = cv .u8 (sr (va (v (i / 4)) (f (i / 4))) (i % 4 * 8))
 | 0, i, h => absurd h (by omega)
 | n + 1, i, h => by
  unfold bk upd
  by_cases e : i = n
  ·rw [if_pos e, e]
  ·rw [if_neg e, bk_at f v n i (by omega)]
theorem bk_av (f : NI) : av 64 (w8 (bk f (rd f 10) 64)) = av 64 (w8 (bl f)) := av_congr fun i hi => by
 unfold w8 bl
 rw [bk_at _ _ 64 i hi]
theorem c_block (f : NI) (w : World) (hL : Laid w)  : Cs 133 #[.agg (av 16 (w32 f))] w (.agg (av 64 (w8 (bl f)))) := by
 go_enter Tryz.func133, Tryz.ntmps133
 have M := Mem.start hL
 refine sR <| pN M 1 (.cells (av 16 (w32 f)) 149) fun g1 u1 M => pN M 2 (.cells (av 64 (w8 (fun _ => 0))) 159) fun g2 u2 M => nT <| sR <| pA M 6 0 16 (w32 f) <| pN M 3 (.cells (av 16 (w32 (fun _ => 0))) 149) fun g3 u3 M => ZG M 2 16 (w32 f) fun u4 M => nT <| wp_seq <| sq <| wp_block ?_
 refine au_loop (fun j a w' => ∃ v1 : NV, a = (fm ([.agg (av 16 (w32 f)), pJ g1, pJ g2, pJ g3] ++ vr v1 4 3 ++ [.int .i64 (j : Int)] ++ vr v1 8 24)) ∧ Mem ⟨w, []⟩ [⟨g1, .cells (av 16 (w32 f)) 149⟩, ⟨g2, .cells (av 64 (w8 (fun _ => 0))) 159⟩, ⟨g3, .cells (av 16 (w32 (rd f j))) 149⟩] w') 10 (exS M) ?_ ?_
 ·intro j a u0 hj hI
  obtain ⟨v1, rfl, M⟩ := hI
  refine sR <| ZT 8 ((j : Int) < 10) <| nT <| wp_seq <| cT <| wp_skip <| au_then <| wp_seq <| wp_block <| rg_lit <| ZY M 9 2 (.tuple #[]) (.cells (av 16 (w32 (rd f (j + 1)))) 149) (fun w M => c_round (rd f j) g3 w M.laid (M.get 2 rfl) (M.ne0 2 rfl)) fun u5 M => pl_nil <| au_block <| au_then <| rg_lit <| ZI 10 ((j : Int) + 1) ((j + 1 : Nat) : Int) ?_
  refine rV 1 <| nT ?_
  exact exS M
 ·intro a u0 hI
  obtain ⟨v1, rfl, M⟩ := hI
  refine sR <| ZF 8 (10 < 10) <| nT <| wp_seq <| cF <| wp_exit <| au_then_exit <| au_then_exit <| au_block_exit <| au_then <| sR <| pN M 4 (.cells (av 64 (w8 (fun _ => 0))) 159) fun g4 u6 M => nT <| wp_seq <| sq <| wp_block ?_
  refine au_loop (fun j a w' => ∃ v2 : NV, a = (fm ([.agg (av 16 (w32 f)), pJ g1, pJ g2, pJ g3, pJ g4] ++ vr v2 5 2 ++ [.int .i64 (10 : Int)] ++ vr v2 8 3 ++ [.int .i64 (j : Int)] ++ vr v2 12 20)) ∧ Mem ⟨w, []⟩ [⟨g1, .cells (av 16 (w32 f)) 149⟩, ⟨g2, .cells (av 64 (w8 (fun _ => 0))) 159⟩, ⟨g3, .cells (av 16 (w32 (rd f 10))) 149⟩, ⟨g4, .cells (av 64 (w8 (bk f (rd f 10) j))) 159⟩] w') 64 (exS M) ?_ ?_
  ·intro j a u0 hj hI
   obtain ⟨v2, rfl, M⟩ := hI
   refine sR <| ZT 12 ((j : Int) < 64) <| nT <| wp_seq <| cT <| wp_skip <| au_then <| wp_seq <| wp_block <| sq <| rg_tail M 16 (by kernel_rfl) (by kernel_rfl) ?_
   simp only [List.take_succ_cons, List.take_zero]
   refine kR 2 <| eQ 16 .i64 (IntKind.wrap .i64 ((j : Int).tdiv 4)) (quo4 j (by omega)) <| eX 17 .i64 g3 ((j / 4 : Nat)) 16 <| eE M 18 2 ((j / 4 : Nat)) <| kR 1 <| eQ 20 .i64 (IntKind.wrap .i64 ((j : Int).tdiv 4)) (quo4 j (by omega)) <| eX 21 .i64 g1 ((j / 4 : Nat)) 16 <| eE M 22 0 ((j / 4 : Nat)) <| kR 2 <| eQ 25 .i64 (Int.tmod (j : Int) 4) (rem4 j) <| eI 26 (((j % 4 : Nat) : Int) * 8) ((j % 4 * 8 : Nat) : Int) <| kH 27 (.int .u32 (sr (va (rd f 10 (j / 4)) (f (j / 4))) (j % 4 * 8))) (run_shrV 91 3 _ _ rfl _ .i64 (j % 4 * 8) (by kernel_rfl) (by kernel_rfl) (by omega)) <| kR 1 <| eX 29 .i64 g4 (j) 64 <| kl_nil fun u7 M => ZP8 M 3 j (cv .u8 (sr (va (rd f 10 (j / 4)) (f (j / 4))) (j % 4 * 8))) fun u8 M => ?_
   refine pl_nil <| au_block <| au_then <| rg_lit <| ZI 30 ((j : Int) + 1) ((j + 1 : Nat) : Int) <| rV 1 <| nT ?_
   exact exS M
  ·intro a u0 hI
   obtain ⟨v2, rfl, M⟩ := hI
   refine sR <| ZF 12 (64 < 64) <| nT <| wp_seq <| cF <| wp_exit <| au_then_exit <| au_then_exit <| au_block_exit <| au_then <| sR <| pA M 31 3 64 (w8 (bk f (rd f 10) 64)) <| ZG M 1 64 (w8 (bk f (rd f 10) 64)) fun u9 M => nT <| wp_ret ?_
   refine bodyPost_ret (v := .agg (av 64 (w8 (bl f)))) (Eq.trans (b := .ok (.agg (av 64 (w8 (bk f (rd f 10) 64)))) _) (results_cell_row Tryz.results133 _ _ g2 159 (av 64 (w8 (bk f (rd f 10) 64))) (0, 0) _ (by kernel_rfl) (M.get 1 rfl) Tryz.underlying159 rfl (by rw [av_size]; exact inz159)) (by rw [bk_av])) (by kernel_rfl) ⟨rfl, below_grown M.old⟩
open Go.Shelf Go.RowKit
def repRen : Go.Shelf.Ren := ⟨fun | 165 => 128 | 167 => 130 | 169 => 131 | 240 => 160 | 241 => 161 | 276 => 173 | 277 => 174 | n => n, fun | 0 => 0 | 3 => 3 | 4 => 4 | 5 => 5 | 9 => 9 | 20 => 20 | 37 => 61 | 70 => 175 | 72 => 177 | 75 => 183 | 80 => 95 | 127 => 220 | 164 => 237 | n => n, fun | n => n⟩
theorem lays165 : Go.Proofs.Lays.n165 Tryz.prog repRen := {
 mixed := by kernel_rfl
 f165 := Tryz.func128.trans (congrArg some (by kernel_rfl))
 f240 := Tryz.func160.trans (congrArg some (by kernel_rfl))
 f241 := Tryz.func161.trans (congrArg some (by kernel_rfl))
 f276 := Tryz.func173.trans (congrArg some (by kernel_rfl))
 f277 := Tryz.func174.trans (congrArg some (by kernel_rfl))
 t0 := Tryz.underlying0
 a0 := Tryz.isAgg0
 z0 := Tryz.sizeOf0
 v0 := Tryz.zeroValue0
 t3 := Tryz.underlying3
 a3 := Tryz.isAgg3
 z3 := Tryz.sizeOf3
 v3 := Tryz.zeroValue3
 t4 := Tryz.underlying4
 a4 := Tryz.isAgg4
 z4 := Tryz.sizeOf4
 v4 := Tryz.zeroValue4
 t9 := Tryz.underlying9
 a9 := Tryz.isAgg9
 z9 := Tryz.sizeOf9
 v9 := Tryz.zeroValue9
 t20 := Tryz.underlying20
 a20 := Tryz.isAgg20
 z20 := Tryz.sizeOf20
 v20 := Tryz.zeroValue20
 t37 := Tryz.underlying61
 a37 := Tryz.isAgg61
 z37 := Tryz.sizeOf61
 v37 := Tryz.zeroValue61
 t70 := Tryz.underlying175
 a70 := Tryz.isAgg175
 z70 := Tryz.sizeOf175
 v70 := Tryz.zeroValue175
 t72 := Tryz.underlying177
 a72 := Tryz.isAgg177
 z72 := Tryz.sizeOf177
 v72 := Tryz.zeroValue177
 t164 := Tryz.underlying237
 a164 := Tryz.isAgg237
 z164 := Tryz.sizeOf237
 v164 := Tryz.zeroValue237 }
theorem lays167 : Go.Proofs.Lays.n167 Tryz.prog repRen := {
 mixed := by kernel_rfl
 f167 := Tryz.func130.trans (congrArg some (by kernel_rfl))
 f240 := Tryz.func160.trans (congrArg some (by kernel_rfl))
 f276 := Tryz.func173.trans (congrArg some (by kernel_rfl))
 t0 := Tryz.underlying0
 a0 := Tryz.isAgg0
 z0 := Tryz.sizeOf0
 v0 := Tryz.zeroValue0
 t4 := Tryz.underlying4
 a4 := Tryz.isAgg4
 z4 := Tryz.sizeOf4
 v4 := Tryz.zeroValue4
 t5 := Tryz.underlying5
 a5 := Tryz.isAgg5
 z5 := Tryz.sizeOf5
 v5 := Tryz.zeroValue5
 t9 := Tryz.underlying9
 a9 := Tryz.isAgg9
 z9 := Tryz.sizeOf9
 v9 := Tryz.zeroValue9
 t20 := Tryz.underlying20
 a20 := Tryz.isAgg20
 z20 := Tryz.sizeOf20
 v20 := Tryz.zeroValue20
 t37 := Tryz.underlying61
 a37 := Tryz.isAgg61
 z37 := Tryz.sizeOf61
 v37 := Tryz.zeroValue61
 t70 := Tryz.underlying175
 a70 := Tryz.isAgg175
 z70 := Tryz.sizeOf175
 v70 := Tryz.zeroValue175
 t72 := Tryz.underlying177
 a72 := Tryz.isAgg177
 z72 := Tryz.sizeOf177
 v72 := Tryz.zeroValue177
 t75 := Tryz.underlying183
 a75 := Tryz.isAgg183
 z75 := Tryz.sizeOf183
 v75 := Tryz.zeroValue183
 t164 := Tryz.underlying237
 a164 := Tryz.isAgg237
 z164 := Tryz.sizeOf237
 v164 := Tryz.zeroValue237 }
theorem lays169 : Go.Proofs.Lays.n169 Tryz.prog repRen := {
 mixed := by kernel_rfl
 f169 := Tryz.func131.trans (congrArg some (by kernel_rfl))
 t0 := Tryz.underlying0
 a0 := Tryz.isAgg0
 z0 := Tryz.sizeOf0
 v0 := Tryz.zeroValue0
 t3 := Tryz.underlying3
 a3 := Tryz.isAgg3
 z3 := Tryz.sizeOf3
 v3 := Tryz.zeroValue3
 t9 := Tryz.underlying9
 a9 := Tryz.isAgg9
 z9 := Tryz.sizeOf9
 v9 := Tryz.zeroValue9
 t37 := Tryz.underlying61
 a37 := Tryz.isAgg61
 z37 := Tryz.sizeOf61
 v37 := Tryz.zeroValue61
 t70 := Tryz.underlying175
 a70 := Tryz.isAgg175
 z70 := Tryz.sizeOf175
 v70 := Tryz.zeroValue175
 t72 := Tryz.underlying177
 a72 := Tryz.isAgg177
 z72 := Tryz.sizeOf177
 v72 := Tryz.zeroValue177
 t127 := Tryz.underlying220
 a127 := Tryz.isAgg220
 z127 := Tryz.sizeOf220
 v127 := Tryz.zeroValue220 }
theorem repExtra : Builder.Extra Tryz.prog repRen := {
 sizeBuilder := by kernel_rfl
 liesBuilder := by kernel_rfl
 t5 := Tryz.underlying5
 a5 := Tryz.isAgg5
 z5 := Tryz.sizeOf5
 v5 := Tryz.zeroValue5
 infoByte := by kernel_rfl
 cellsByte := by kernel_rfl
 sizeByte := by kernel_rfl
 neB5 := by decide }
open Go.RowKit
open Go.Shelf
def FW (ro : Option Nat) : Fence := { Fence.wide with round := ro }
theorem fw_calls {ro : Option Nat} {n : Nat} {P : Program} {f : FuncId} {args : Array Value} {w : World} {R : Ending → World → Prop} (h : Calls P f args w R) : CallsIn (FW ro) n P f args w R := (callsIn_wide (n := n)).2 h
theorem fw_rows {ro : Option Nat} {n : Nat} {P : Program} {row : String} {args : Array Value} {w : World} {R : Value → World → Prop} (h : Rows P row args w R) : RowsIn (FW ro) n P row args w R :=
 fun c cs _ => let ⟨v, w', r, s⟩ := h c cs; ⟨v, w', r, stepsIn_wide.2 s⟩
section
variable {P : Program} {ops : Array Oper} {rest : List Oper} {o : Oper} {a : Act} {w : World} {Q : Exit → Act → World → Prop} {K : Act → World → Prop} {n : Nat} {ro : Option Nat}
theorem op_in (hd : ∀ c, o.op ≠ .defer c) (h : o.wp P a w K Q) : o.wpIn (FW ro) n P a w K Q := by
 refine ⟨fun _ _ => trivial, ?_⟩
 rw [Oper.semAt_eq _ _ _ hd]
 unfold Oper.wp at h
 generalize (execOp a.eval o).run P w = r at h
 cases r with
 | ok x w' =>
  cases x <;> simp only [Oper.upon] at h <;> simp only [Oper.uponIn]
  all_goals first
   | exact h
   | exact h.elim
   | exact ⟨fun e => by simp [FW, Fence.wide] at e, fw_calls h⟩
   | exact ⟨fun e => by simp [FW, Fence.wide] at e, fw_rows h⟩
 | halt x w' => cases x <;> simp only [Oper.upon] at h <;> simp only [Oper.uponIn] <;> exact h
def ndB (o : Oper) : Bool := match o.op with
 | .defer _ => false
 | _ => true
theorem nd_of (h : ndB o = true) : ∀ c, o.op ≠ .defer c := fun c e => by simp [ndB, e] at h
theorem list_in : ∀ (l : List Oper) (a : Act) (w : World), l.all ndB = true → (∀ a w, ¬ Q .outgrown a w) → wpList P ops Q l a w → wpListIn (FW ro) n P ops Q l a w
 | [], _, _, _, _, h => h
 | o :: l, a, w, hd, hQ, h => by
  simp only [List.all_cons, Bool.and_eq_true] at hd
  unfold wpList at h
  unfold wpListIn
  split
  ·rename_i hw
   rw [if_pos hw] at h
   rcases h with h | ⟨_, a', w', h⟩
   ·exact Oper.wpIn_mono (fun a w h => list_in l a w hd.2 hQ h) (op_in (nd_of hd.1) h)
   ·exact absurd h (hQ a' w')
  ·rename_i hw
   rw [if_neg hw] at h
   exact ⟨fun _ _ => trivial, list_in l _ _ hd.2 hQ h⟩
theorem list_in_then : ∀ (l : List Oper) (a : Act) (w : World), l.all ndB = true → (∀ a w, ¬ Q .outgrown a w) → wpList P ops (Exit.then (wpListIn (FW ro) n P ops Q rest) Q) l a w → wpListIn (FW ro) n P ops Q (l ++ rest) a w
 | [], _, _, _, _, h => h
 | o :: l, a, w, hd, hQ, h => by
  simp only [List.all_cons, Bool.and_eq_true] at hd
  unfold wpList at h
  rw [List.cons_append]
  unfold wpListIn
  split
  ·rename_i hw
   rw [if_pos hw] at h
   rcases h with h | ⟨_, a', w', h⟩
   ·exact Oper.wpIn_mono (fun a w h => list_in_then l a w hd.2 hQ h) (op_in (nd_of hd.1) (wp_unthen h))
   ·exact absurd h (hQ a' w')
  ·rename_i hw
   rw [if_neg hw] at h
   exact ⟨fun _ _ => trivial, list_in_then l _ _ hd.2 hQ h⟩
theorem any_in (hd : ∀ (i : Nat) (o : Oper), ops[i]? = some o → ndB o = true) (hQ : ∀ a w, ¬ Q .outgrown a w) {md : Region.Mode} : ∀ (fuel : Nat) (listed : Array Bool) (a : Act) (w : World), wpAny P md ops Q fuel listed a w → wpAnyIn (FW ro) n P md ops Q fuel listed a w
 | 0, _, _, _, h => h
 | fuel + 1, listed, a, w, h => ⟨h.1, fun i hi => by
  have h1 := h.2 i hi
  unfold wpOp at h1
  unfold wpOpIn
  cases ho : ops[i]? with
  | none =>
   simp only [ho] at h1 ⊢
   exact any_in hd hQ fuel _ _ _ h1
  | some o =>
   simp only [ho] at h1 ⊢
   split
   ·rename_i hw
    rw [if_pos hw] at h1
    rcases h1 with h1 | ⟨_, a', w', h1⟩
    ·exact Oper.wpIn_mono (fun a w h => any_in hd hQ fuel _ a w h) (op_in (nd_of (hd i o ho)) h1)
    ·exact absurd h1 (hQ a' w')
   ·rename_i hw
    rw [if_neg hw] at h1
    exact ⟨fun _ _ => trivial, any_in hd hQ fuel _ _ _ h1⟩⟩
theorem rr_lit {id : Nat} {l : List Oper} (hd : l.all ndB = true) (hQ : ∀ a w, ¬ Q .outgrown a w) (h : PL P l.toArray Q l a w) : (Code.region id l.toArray false).wpIn (FW ro) n P Q a w := wpIn_region_lit (list_in l a w hd hQ h.out)
theorem rr_held {c : Ctx} {L : List Blk} {id : Nat} {l : List Oper} (hd : l.all ndB = true) (hO : ∀ a w, ¬ Q .outgrown a w) (M : Mem c L w) (Ls : List Blk) (m : Nat) (hn : l.length = m + 1) (hm : P.follows .mixedOrders = true) (hB : (Region.sinkB .any l.toArray m && Region.chainB .any l.toArray m && Region.noSelect l.toArray) = true) (hQ : ∀ c a d v w, Q (.panic c) (Act.put a d v) w → Q (.panic c) a w)
  (h : ∀ w', Mem c L w' → HL P l.toArray Q (Mem c Ls) m (m + 1) (Array.replicate (m + 1) false) a w') : (Code.region id l.toArray true).wpIn (FW ro) n P Q a w := by
 simp only [Bool.and_eq_true] at hB
 have hsz : l.toArray.size = m + 1 := by simpa using hn
 have inv : HeadInv .any l.toArray m (Array.replicate (m + 1) false) :=
  ⟨by simpa using hn.symm, fun j oj _ hl => (by rw [getD_replicate_false] at hl; cases hl), fun t _ ht => getD_in (by simp; omega) (getD_replicate_false _ _)⟩
 have h2 := (h w.drew M.drew).out hQ ⟨hB.1.1, hB.1.2, by omega, hB.2⟩ inv
 refine wpIn_region_any hm (any_in (fun i o ho => ?_) hO _ _ _ _ (wpAny_of_L (S := Mem c Ls) (n := m) _ _ _ _ ?_))
 ·have h3 : l[i]? = some o := by simpa using ho
  exact List.all_eq_true.1 hd o (List.mem_of_getElem? h3)
 ·rw [hsz]
  exact h2
theorem rr_ghost {c : Code} (I : Nat → Act → World → Prop) (n₀ : Nat) (h₀ : I n₀ a w)
  (round : ∀ m a w, I m a w → c.wpIn (FW ro) n P (Exit.then (fun a' w' => ∃ m', m' < m ∧ I m' a' w') Q) a w) : (Code.loop c).wpIn (FW ro) n P Q a w := by
 refine wpIn_loop (fun a w => ∃ m, I m a w) (fun a w => leastOf (fun m => I m a w)) ⟨n₀, h₀⟩ ?_
 intro a w hI
 refine wpIn_mono (round _ a w (leastOf_spec hI).1) ?_
 intro e a' w' hq
 cases e with
 | normal =>
  obtain ⟨m', hlt, hI'⟩ := hq
  exact show (∃ m, I m a' w') ∧ leastOf (fun m => I m a' w') < leastOf (fun m => I m a w) from ⟨⟨m', hI'⟩, Nat.lt_of_le_of_lt ((leastOf_spec ⟨m', hI'⟩).2 m' hI') hlt⟩
 | exit id => exact hq
 | goto l => exact hq
 | ret => exact hq
 | panic ch => exact hq
 | outgrown => exact hq
theorem rr_loop {c : Code} (I : Nat → Act → World → Prop) (N : Nat) (h0 : I 0 a w) (round : ∀ j a w, j < N → I j a w → c.wpIn (FW ro) n P (Exit.then (I (j + 1)) Q) a w) (last : ∀ a w, I N a w → c.wpIn (FW ro) n P (Exit.then (fun _ _ => False) Q) a w) : (Code.loop c).wpIn (FW ro) n P Q a w := by
 refine rr_ghost (fun n a w => n ≤ N ∧ I (N - n) a w) N ⟨Nat.le_refl _, by rw [Nat.sub_self]; exact h0⟩ fun n a w ⟨hn, hI⟩ => ?_
 cases n with
 | zero =>
  rw [Nat.sub_zero] at hI
  refine wpIn_mono (last a w hI) fun e a' w' hq => ?_
  cases e <;> first | exact hq | exact hq.elim
 | succ n =>
  refine wpIn_mono (round (N - (n + 1)) a w (by omega) hI) fun e a' w' hq => ?_
  rw [show N - (n + 1) + 1 = N - n by omega] at hq
  cases e <;> first | exact hq | exact ⟨n, by omega, by omega, hq⟩
def rdPost (lp : Nat) (d : Option Tmp) (a : Act) (Q : Exit → Act → World → Prop) : Exit → Act → World → Prop
 | .normal, _, u => ∃ r, u.heap[lp]? = some (.loop r) ∧ Q .normal (a.put d (.bool true)) (u.putObj lp (.loop { r with state := .ready, pending := none }))
 | .exit i, _, u => ∃ r, u.heap[lp]? = some (.loop r) ∧ Q .normal (a.put d (.bool false)) (u.putObj lp (.loop { r with state := .done, pending := some (.exit i) }))
 | .ret, _, u => ∃ r, u.heap[lp]? = some (.loop r) ∧ Q .normal (a.put d (.bool false)) (u.putObj lp (.loop { r with state := .done, pending := some .ret }))
 | _, _, _ => False
theorem pl_yield (lp : Nat) (r : Loop) (args : Array Value) (hl : w.heap[lp]? = some (.loop r)) (hs : args.size = r.params.size) (hst : r.state = .ready) (hd : ndB o = true) (hrun : ∀ w, (execOp a.eval o).run P w = (Instr.yield lp args).run P w) (hw : Region.wanted o (yielded ops a.tmps) = true)
  (h : r.assign.wpIn (FW (some lp)) 0 P (Exit.then (fun a1 w1 => w1.heap[lp]? = some (.loop r) ∧ r.body.wpIn (FW (some lp)) 0 P (rdPost lp o.dst a Q) a1 (w1.putObj lp (.loop { r with state := .busy }))) (fun _ _ _ => False)) { tmps := (r.params.zip args).foldl (fun t (p, v) => t.setIfInBounds p v) r.tmps, defers := [] } w) :
  wpListIn (FW none) 0 P ops Q [o] a w := by
 unfold wpListIn
 rw [if_pos hw]
 refine ⟨fun _ _ => trivial, ?_⟩
 rw [Oper.semAt_eq _ _ _ (nd_of hd), hrun, run_yield hl hs, Oper.uponIn_round]
 refine ⟨fun e => by simp [FW, Fence.wide] at e, ?_⟩
 refine roundIn_of_wpIn (F := FW none) trivial <| wpIn_mono h ?_
 rintro e a1 w1 hq
 cases e with
 | normal =>
  obtain ⟨h1, h2⟩ := hq
  refine ⟨_, run_beginRound h1 hst, ?_⟩
  refine wpIn_mono h2 ?_
  rintro e a2 w2 hq
  cases e with
  | normal =>
   obtain ⟨r2, h3, h4⟩ := hq
   exact ⟨_, _, run_endRound none h3, h4⟩
  | ret =>
   obtain ⟨r2, h3, h4⟩ := hq
   exact ⟨_, _, run_endRound _ h3, h4⟩
  | exit i =>
   obtain ⟨r2, h3, h4⟩ := hq
   exact ⟨_, _, run_endRound _ h3, h4⟩
  | goto i => exact hq.elim
  | panic c => exact hq.elim
  | outgrown => exact hq.elim
 | ret => exact hq.elim
 | exit i => exact hq.elim
 | goto i => exact hq.elim
 | panic c => exact hq.elim
 | outgrown => exact hq.elim
theorem wp_range {g : Operand} {ps : Array Tmp} {assign body : Code} {gf : FuncId} {lb : Array Value} (hg : a.eval g = .func (.func gf) #[] lb) (eg : ∀ args w, (callFunc gf args).run P w = .ok (.enter gf args) w)
  (h : ∀ fn, Calls P gf (#[.func (.yield (w.heap.size + 1)) #[] #[]] ++ lb) ((w.alloc (.deferred (some []))).alloc (.loop { state := .ready, pending := none, fn, tmps := a.tmps, params := ps, assign, body, defers := w.heap.size }))
   fun e w3 => (∃ v, e = .returned v) ∧ ∃ r, w3.heap[w.heap.size + 1]? = some (.loop r) ∧ r.state ≠ .busy ∧
    (match r.pending with
     | none => Q .normal { a with defers := { target := .collected w.heap.size, args := #[] } :: a.defers } (w3.putObj (w.heap.size + 1) (.loop { r with state := .exhausted }))
     | some c => c.wp P Q { a with defers := { target := .collected w.heap.size, args := #[] } :: a.defers } (w3.putObj (w.heap.size + 1) (.loop { r with state := .exhausted })))) :
  (Code.rangeFunc g ps assign body).wp P Q a w := by
 refine (wpIn_wide (n := 0)).1 <| wpIn_rangeFunc ?_
 intro fn _
 refine ⟨w.heap.size + 1, [{ target := .collected w.heap.size, args := #[] }], ((w.alloc (.deferred (some []))).alloc (.loop { state := .ready, pending := none, fn, tmps := a.tmps, params := ps, assign, body, defers := w.heap.size })), { target := .fn (.func gf) lb, args := #[.func (.yield (w.heap.size + 1)) #[] #[]] }, ((w.alloc (.deferred (some []))).alloc (.loop { state := .ready, pending := none, fn, tmps := a.tmps, params := ps, assign, body, defers := w.heap.size })), gf, #[.func (.yield (w.heap.size + 1)) #[] #[]] ++ lb, ((w.alloc (.deferred (some []))).alloc (.loop { state := .ready, pending := none, fn, tmps := a.tmps, params := ps, assign, body, defers := w.heap.size })), run_enterLoop_outer _ _ _ _ _, ?_, fun _ _ => trivial, ?_, fun e => by simp [Fence.wide] at e, ?_⟩
 ·simp only [resolve, hg]
  simp [go_sem]
 ·simp [invoke, go_sem, eg]
 ·refine (callsIn_wide (n := 0 - 1)).2 ((h fn).mono ?_)
  rintro e w3 ⟨⟨v, rfl⟩, r, h1, h2, h3⟩
  refine ⟨r.pending, _, run_endLoop h1 h2, ?_⟩
  cases hp : r.pending with
  | none =>
   rw [hp] at h3
   exact h3
  | some c =>
   rw [hp] at h3
   exact wpIn_wide.2 h3
theorem marks_ret {fn : Func} {R : Ending → World → Prop} {D : Nat} {v : Value} (hdf : a.defers = [{ target := .collected D, args := #[] }]) (hD : w.heap[D]? = some (.deferred (some []))) (hr : ∀ w, (results fn a.tmps).run P w = .ok v w) (h : R (.returned v) (w.putObj D (.deferred none))) : bodyPostM Fence.wide 0 P fn R .ret a w := by
 show LeavesInM Fence.wide 0 P fn a.tmps R a.defers .returning w
 rw [hdf]
 refine ⟨by simp, .inl ⟨D, _, rfl, run_takeDeferred hD, ?_⟩⟩
 exact ⟨v, hr _, h⟩
end
def NR (Z : Obj) : Prop := ∀ c fz, Z ≠ .cells c 5 fz
structure ST (w : World) (k : Nat) (l : List UInt8) (L : List Blk) (u : World) : Prop where
 bel : Below w.heap.size w u
 hk : w.heap.size ≤ k
 isb : Lib.IsBuilderF 177 5 k k (Lib.byteCells l) u
 at_ : ∀ b ∈ L, u.heap[b.g]? = some b.Z
 ne : ∀ b ∈ L, b.g ≠ k
 nr : ∀ b ∈ L, NR b.Z
 ge : ∀ b ∈ L, w.heap.size ≤ b.g
 nodup : (L.map Blk.g).Nodup
theorem ST.mem {w u : World} {k : Nat} {l : List UInt8} {L : List Blk} (h : ST w k l L u) (hL : Laid w) : Mem ⟨u, L.map Blk.g⟩ L u :=
 ⟨grown_refl _ _, h.at_, fun b hb => .inr (List.mem_map_of_mem hb), h.nodup, below_laid h.bel hL, fun x e => by
  obtain ⟨b, hb, e⟩ := List.mem_map.1 e
  have := h.ge b hb
  have := hL.lt
  omega⟩
theorem isf_lt {w : World} {T e : TypeId} {B b : Nat} {xs : List Value} (h : Lib.IsBuilderF T e B b xs w) : b < w.heap.size := h.elim Lib.BuilderAtF.lt Lib.BuilderAtF.lt
theorem owf_keep {w w' : World} {B : Nat} {e : TypeId} {v : Value} {n : Nat} {xs : List Value} (h : w.ownsRowF B e 1 v n xs) (hb : ∀ (g : Nat) (c : Array Value) (fz : Nat × Nat), w.heap[g]? = some (Obj.cells c e fz) → w'.heap[g]? = w.heap[g]?) : w'.ownsRowF B e 1 v n xs := by
 obtain ⟨h1, h2⟩ := h
 refine ⟨h1, ?_⟩
 rcases h2 with h2 | ⟨g, cap, cur, fz, h3, h4, h5, h6⟩
 ·exact .inl h2
 ·exact .inr ⟨g, cap, cur, fz, h3, h4, by rw [hb g cur fz h5]; exact h5, h6⟩
theorem batf_keep {w w' : World} {T e : TypeId} {B b : Nat} {p : Value} {xs : List Value} (h : Lib.BuilderAtF T e B b p xs w) (hk : w'.heap[b]? = w.heap[b]?) (hb : ∀ (g : Nat) (c : Array Value) (fz : Nat × Nat), w.heap[g]? = some (Obj.cells c e fz) → w'.heap[g]? = w.heap[g]?) : Lib.BuilderAtF T e B b p xs w' := by
 obtain ⟨h1, v, h2, h3, h4⟩ := h
 exact ⟨h1, v, by rw [hk]; exact h2, owf_keep h3 hb, h4⟩
theorem isf_keep {w w' : World} {T e : TypeId} {B b : Nat} {xs : List Value} (h : Lib.IsBuilderF T e B b xs w) (hk : w'.heap[b]? = w.heap[b]?) (hb : ∀ (g : Nat) (c : Array Value) (fz : Nat × Nat), w.heap[g]? = some (Obj.cells c e fz) → w'.heap[g]? = w.heap[g]?) : Lib.IsBuilderF T e B b xs w' := h.imp (batf_keep · hk hb) (batf_keep · hk hb)
theorem ST.next {w u u' : World} {k : Nat} {l : List UInt8} {L L' : List Blk} (h : ST w k l L u) (M : Mem ⟨u, L.map Blk.g⟩ L' u') (hn : ∀ b ∈ L', NR b.Z) : ST w k l L' u' := by
 have hkl := isf_lt h.isb
 have hsz := h.bel.size
 have hr : ∀ g, g ∈ L.map Blk.g → g ≠ k ∧ w.heap.size ≤ g ∧ ∃ Z, u.heap[g]? = some Z ∧ NR Z := fun g hg => by
  obtain ⟨b, hb, rfl⟩ := List.mem_map.1 hg
  exact ⟨h.ne b hb, h.ge b hb, b.Z, h.at_ b hb, h.nr b hb⟩
 have ho : Grw u u' (L.map Blk.g) := M.old
 refine ⟨h.bel.trans ⟨ho.os, ho.tape, ho.output, ho.size, fun j hj => ho.block j (by omega) fun hm => ?_⟩, h.hk, isf_keep h.isb (ho.block k hkl fun hm => (hr k hm).1 rfl) (fun g c fz hg => ho.block g (Array.getElem?_eq_some_iff.1 hg).1 fun hm => ?_), M.at_, fun b hb e => ?_, hn, fun b hb => ?_, M.nodup⟩
 ·have := (hr j hm).2.1
  omega
 ·obtain ⟨_, _, Z, h1, h2⟩ := hr g hm
  rw [hg] at h1
  exact h2 c fz (Option.some.inj h1).symm
 ·rcases M.ge b hb with h1 | h1
  ·have h1 : u.heap.size ≤ b.g := h1
   omega
  ·exact (hr _ h1).1 e
 ·rcases M.ge b hb with h1 | h1
  ·have h1 : u.heap.size ≤ b.g := h1
   omega
  ·exact (hr _ h1).2.1
theorem ST.perm {w u : World} {k : Nat} {l : List UInt8} {L L' : List Blk} (h : ST w k l L u) (hp : L.Perm L') : ST w k l L' u :=
 ⟨h.bel, h.hk, h.isb, fun b hb => h.at_ b (hp.mem_iff.2 hb), fun b hb => h.ne b (hp.mem_iff.2 hb), fun b hb => h.nr b (hp.mem_iff.2 hb), fun b hb => h.ge b (hp.mem_iff.2 hb), (hp.map _).nodup_iff.1 h.nodup⟩
theorem ST.drop {w u : World} {k : Nat} {l : List UInt8} {L L' : List Blk} (h : ST w k l L u) (hp : L'.Sublist L) : ST w k l L' u :=
 ⟨h.bel, h.hk, h.isb, fun b hb => h.at_ b (hp.subset hb), fun b hb => h.ne b (hp.subset hb), fun b hb => h.nr b (hp.subset hb), fun b hb => h.ge b (hp.subset hb), h.nodup.sublist (hp.map _)⟩
theorem cells_one (l : List UInt8) (c : Int) (h0 : 0 ≤ c) (h1 : c < 256) : Lib.byteCells (l ++ [UInt8.ofNat c.toNat]) = Lib.byteCells l ++ [.int .u8 c] := by
 rw [Lib.byteCells_append]
 congr 1
 have e : (UInt8.ofNat c.toNat).toNat = c.toNat := by
  rw [UInt8.toNat_ofNat']
  omega
 show [Value.int .u8 ((UInt8.ofNat c.toNat).toNat : Int)] = _
 rw [e]
 congr 2
 omega
theorem ST.write {w u : World} {k : Nat} {l : List UInt8} {L : List Blk} (h : ST w k l L u) (c : Int) (h0 : 0 ≤ c) (h1 : c < 256) (hl : l.length < 1000000) : Calls Tryz.prog 130 #[pJ k, .int .u8 c] u fun r u' => r = .returned .nilIface ∧ ST w k (l ++ [UInt8.ofNat c.toNat]) L u' := by
 have hkl := isf_lt h.isb
 have hlen : (Lib.byteCells l).length = l.length := Lib.byteCells_length l
 refine (Any.Builder_WriteByte_k (P := Tryz.prog) (ρ := repRen) lays167 repExtra k k (Lib.byteCells l) c u h.isb (by omega) (by omega)).mono ?_
 rintro r u' ⟨rfl, h2, h3, h4⟩
 have hat : ∀ b ∈ L, u'.heap[b.g]? = some b.Z := fun b hb => h4 b.g b.Z (h.at_ b hb) (fun e => h.ne b hb (Option.some.inj e)) (fun cs fz e => h.nr b hb cs fz e)
 exact ⟨rfl, h.bel.trans (h3.mono h.hk), h.hk, .inr (by rw [cells_one l c h0 h1]; exact h2), hat, h.ne, h.nr, h.ge, h.nodup⟩
theorem ST.str {w u : World} {k : Nat} {l : List UInt8} {L : List Blk} (h : ST w k l L u) : Calls Tryz.prog 131 #[pJ k] u fun r u' => r = .returned (.string ⟨l.toArray⟩) ∧ ST w k l L u' := by
 have hkl := isf_lt h.isb
 refine (Any.Builder_String_any_k (P := Tryz.prog) (ρ := repRen) lays169 repExtra k k l u h.isb (by omega)).mono ?_
 rintro r u' ⟨rfl, h2, h3, h4⟩
 have hat : ∀ b ∈ L, u'.heap[b.g]? = some b.Z := fun b hb => h4 b.g b.Z (h.at_ b hb) (fun e => h.ne b hb (Option.some.inj e)) (fun cs fz e => h.nr b hb cs fz e)
 exact ⟨rfl, h.bel.trans (h3.mono h.hk), h.hk, h2, hat, h.ne, h.nr, h.ge, h.nodup⟩
theorem ST.put {w u : World} {k : Nat} {l : List UInt8} {L : List Blk} (h : ST w k l L u) (hL : Laid w) (i g : Nat) (Z Z' : Obj) (hi : L[i]? = some ⟨g, Z⟩) (hz : NR Z') : ST w k l (L.set i ⟨g, Z'⟩) (u.putObj g Z') := by
 have hg : u.heap[g]? = some Z := h.at_ _ (List.mem_of_getElem? hi)
 have hlt : g < u.heap.size := (Array.getElem?_eq_some_iff.1 hg).1
 have hu : Grw u (u.putObj g Z') [g] := ⟨rfl, rfl, rfl, by simp, fun j _ hj => World.putObj_heap_other (by simpa using hj)⟩
 refine h.next ((h.mem hL).put i ⟨g, Z⟩ hi Z' hu (World.putObj_heap_same hlt)) fun b hb => ?_
 rcases List.mem_or_eq_of_mem_set hb with h1 | h1
 ·exact h.nr b h1
 ·rw [h1]
  exact hz
open Go.RowKit
def findRange : Code → Option (Code × Code)
 | .seq a b => (findRange a).orElse fun _ => findRange b
 | .block _ c => findRange c
 | .rangeFunc _ _ s b => some (s, b)
 | _ => none
theorem code_is {O : Option (Code × Code)} {c0 d0 sg bd : Code} (hO : O = some (c0, d0)) (hc : O = some (sg, bd)) {F : Fence} {n : Nat} {P : Program} {Q : Exit → Act → World → Prop} {a : Act} {w : World} (h : d0.wpIn F n P Q a w) : bd.wpIn F n P Q a w := by
 rw [hO] at hc
 cases hc
 exact h
theorem code_is1 {O : Option (Code × Code)} {c0 d0 sg bd : Code} (hO : O = some (c0, d0)) (hc : O = some (sg, bd)) {F : Fence} {n : Nat} {P : Program} {Q : Exit → Act → World → Prop} {a : Act} {w : World} (h : c0.wpIn F n P Q a w) : sg.wpIn F n P Q a w := by
 rw [hO] at hc
 cases hc
 exact h
theorem au_block_out {id j : Nat} {Q : Exit → Act → World → Prop} {a : Act} {w : World} (h : j ≠ id) (hq : Q (.exit j) a w) : Exit.inBlock id Q (.exit j) a w := by
 show if j = id then Q .normal a w else Q (.exit j) a w
 rw [if_neg h]
 exact hq
def sw (f : NI) : Nat → (Nat → Int)
 | 0 => f
 | i + 1 => upd (sw f i) 12 (va (sw f i 12) 1)
def ob (f : NI) (s : Yb) (i : Nat) : Int := xb (bt s i) (bl (sw f (i / 64)) (i % 64))
def ot (f : NI) (s : Yb) : Nat → List UInt8
 | 0 => []
 | i + 1 => ot f s i ++ [UInt8.ofNat (ob f s i).toNat]
theorem ot_length (f : NI) (s : Yb) : ∀ n, (ot f s n).length = n
 | 0 => rfl
 | n + 1 => by
  unfold ot
  rw [List.length_append, ot_length f s n]
  rfl
theorem ob_nn (f : NI) (s : Yb) (i : Nat) : 0 ≤ ob f s i ∧ ob f s i < 256 := xb_nn _ _
theorem ob_at (f : NI) (s : Yb) (i j : Nat) (hj : j < 64) : xb (bt s (64 * i + j)) (bl (sw f i) j) = ob f s (64 * i + j) := by
 unfold ob
 rw [show (64 * i + j) / 64 = i by omega, show (64 * i + j) % 64 = j by omega]
theorem ext_size (s : Yb) (p : Nat) : (s.extract p s.size).size = s.size - p := by
 rw [ByteArray.size_extract]
 omega
theorem bt_ext (s : Yb) (p j : Nat) : bt (s.extract p s.size) j = bt s (p + j) := by
 unfold bt
 rw [ByteArray.data_extract, Array.getElem?_extract]
 by_cases h : j < s.data.size - p
 ·rw [if_pos (by show j < min s.data.size s.data.size - p; omega)]
 ·rw [if_neg (by show ¬ j < min s.data.size s.data.size - p; omega), Array.getElem?_eq_none (by omega)]
theorem min_if (x y : Nat) : (if (y : Int) < (x : Int) then (y : Int) else (x : Int)) = ((min x y : Nat) : Int) := by
 by_cases h : y < x
 ·rw [if_pos (by omega), Nat.min_eq_right (by omega)]
 ·rw [if_neg (by omega), Nat.min_eq_left (by omega)]
theorem r_body (sg bd : Code) (hb : Tryz.f100.body.bind findRange = some (sg, bd)) (s : Yb) (f : NI) (i : Nat) (hi : 64 * i ≤ s.size) (hz : s.size ≤ 200000) (k gs g7 lp : Nat) (L0 : List Blk) (v : NV) (w u : World) (hL : Laid w) (R : Exit → Act → World → Prop) (hO : ∀ a w, ¬ R .outgrown a w) (hP : ∀ c a w, ¬ R (.panic c) a w)
  (hS : ST w k (ot f s (64 * i)) (⟨gs, .cells (av 1 (fun _ => .string s)) 9⟩ :: ⟨g7, .cells (av 64 (w8 (bl (sw f i)))) 159⟩ :: L0) u)
  (hgo : ∀ a u', 64 < s.size - 64 * i → ST w k (ot f s (64 * i + 64)) (⟨gs, .cells (av 1 (fun _ => .string s)) 9⟩ :: ⟨g7, .cells (av 64 (w8 (bl (sw f i)))) 159⟩ :: L0) u' → R .normal a u')
  (hend : ∀ a u', s.size - 64 * i ≤ 64 → ST w k (ot f s s.size) (⟨gs, .cells (av 1 (fun _ => .string s)) 9⟩ :: ⟨g7, .cells (av 64 (w8 (bl (sw f i)))) 159⟩ :: L0) u' → R (.exit 0) a u') :
  bd.wpIn (FW (some lp)) 0 Tryz.prog R (fm ([v 0, v 1, pJ gs, v 3, v 4, pJ k, .int .i64 ((64 * i : Nat) : Int), pJ g7] ++ vr v 8 31)) u := by
 refine code_is (O := Tryz.f100.body.bind findRange) rfl hb ?_
 have M := hS.mem hL
 refine wpIn_block <| wpIn_seq <| rr_lit (by kernel_rfl) (fun _ _ h => hO _ _ h) <| ZE M 17 0 0 <| rV 1 <| pH 19 (.string (s.extract (64 * i) s.size)) (run_strl 9 Tryz.underlying9 _ _ rfl s (by kernel_rfl) .i64 (64 * i) (by kernel_rfl) hi _ rfl) <| rV 1 <| nT <| wpIn_seq <| wpIn_seq <| rr_lit (by kernel_rfl) (fun _ _ h => hO _ _ h) <| rV 1 <| zJ 21 (.int .i64 ((s.size - 64 * i : Nat) : Int)) (.int .i64 ((s.extract (64 * i) s.size).size : Int)) (by rw [ext_size]) <| zJ 22 (.int .i64 ((min (s.size - 64 * i) 64 : Nat) : Int)) (.int .i64 (if (64 : Int) < ((s.size - 64 * i : Nat) : Int) then (64 : Int) else ((s.size - 64 * i : Nat) : Int))) (by rw [show (if (64 : Int) < ((s.size - 64 * i : Nat) : Int) then (64 : Int) else ((s.size - 64 * i : Nat) : Int)) = ((min (s.size - 64 * i) 64 : Nat) : Int) from min_if (s.size - 64 * i) 64]) <| rV 1 <| nT ?_
 refine wpIn_block ?_
 have hS1 := hS.next M hS.nr
 obtain ⟨N, hN⟩ : ∃ N, min (s.size - 64 * i) 64 = N := ⟨_, rfl⟩
 have hN2 : N ≤ 64 ∧ N ≤ s.size - 64 * i := by rw [← hN]; exact ⟨Nat.min_le_right _ _, Nat.min_le_left _ _⟩
 rw [hN]
 refine rr_loop (fun j a u => ∃ v1 : NV, a = (fm ([v 0, v 1, pJ gs, v 3, v 4, pJ k, .int .i64 ((64 * i : Nat) : Int), pJ g7, .string (s.extract (64 * i) s.size), v1 9] ++ vr v 10 7 ++ [.string s, .int .i64 ((64 * i : Nat) : Int), .string (s.extract (64 * i) s.size), .string (s.extract (64 * i) s.size), .int .i64 ((s.size - 64 * i : Nat) : Int), .int .i64 ((N : Nat) : Int), .int .i64 (j : Int)] ++ vr v1 24 11 ++ vr v 35 4)) ∧ ST w k (ot f s (64 * i + j)) (⟨gs, .cells (av 1 (fun _ => .string s)) 9⟩ :: ⟨g7, .cells (av 64 (w8 (bl (sw f i)))) 159⟩ :: L0) u) N ⟨fun k_ => ([v 9, undef, undef, undef, undef, undef, undef, undef, undef, undef, undef, undef, undef, undef, undef, v 24, v 25, v 26, v 27, v 28, v 29, v 30, v 31, v 32, v 33, v 34] : List Value).getD (k_ - 9) undef, by kernel_rfl, hS1⟩ ?_ ?_
 ·intro j a u0 hj hI
  clear M hS1 hS
  obtain ⟨v1, rfl, hS⟩ := hI
  have M := hS.mem hL
  refine wpIn_seq <| rr_lit (by kernel_rfl) (fun _ _ h => hO _ _ h) <| ZT 24 ((j : Int) < (N : Int)) <| nT <| wpIn_seq <| wpIn_cond_true (by kernel_rfl) <| wpIn_skip <| au_then <| wpIn_seq <| wpIn_block <| wpIn_seq <| rr_lit (by kernel_rfl) (fun _ _ h => hO _ _ h) <| rV 2 <| nT <| rr_held (by kernel_rfl) (fun _ _ h => hO _ _ h) M (⟨gs, .cells (av 1 (fun _ => .string s)) 9⟩ :: ⟨g7, .cells (av 64 (w8 (bl (sw f i)))) 159⟩ :: L0) 7 rfl (by kernel_rfl) (by kernel_rfl) (fun _ _ _ _ _ h => (hP _ _ _ h).elim) fun u1 M => qV M 0 26 (.string (s.extract (64 * i) s.size)) ?_
  refine qV M 1 27 (.int .i64 (j : Int)) <| qH M 2 28 (.int .u8 (bt s (64 * i + j))) (fun w _ => (fun w => Eq.trans (run_ixS 9 Tryz.underlying9 _ _ rfl (s.extract (64 * i) s.size) (by kernel_rfl) .i64 j (by kernel_rfl) (by rw [ext_size]; omega) w) (by rw [bt_ext])) w) <| qV M 3 29 (.int .i64 (j : Int)) <| qH M 4 30 (pJ g7 j) (fun w _ => (run_ix1 159 64 5 Tryz.underlying159 inz5 _ _ rfl g7 (by kernel_rfl) .i64 (j) (by kernel_rfl) (by omega)) w) <| qE M 5 31 1 j <| qH M 6 32 (.int .u8 (ob f s (64 * i + j))) (fun w _ => (fun w => Eq.trans (b := .ok (.value (.int .u8 (xb (bt s (64 * i + j)) (bl (sw f i) j)))) w) (by kernel_rfl) (by rw [ob_at f s i j (by omega)])) w) <| qZ ?_
  refine pl_callr (want_no rfl) (some 33) rfl 130 #[pJ k, .int .u8 (ob f s (64 * i + j))] .nilIface _ (fun _ => by kernel_rfl) ((hS.next M hS.nr).write (ob f s (64 * i + j)) (ob_nn _ _ _).1 (ob_nn _ _ _).2 (by rw [ot_length]; omega)) ?_
  intro u2 hS2
  refine nT <| au_block <| au_then <| rr_lit (by kernel_rfl) (fun _ _ h => hO _ _ h) <| ZI 34 ((j : Int) + 1) ((j + 1 : Nat) : Int) <| rV 1 <| nT ?_
  exact exS hS2
 ·intro a u0 hI
  clear M hS1 hS
  obtain ⟨v1, rfl, hS⟩ := hI
  by_cases hc : s.size - 64 * i ≤ 64
  ·have M := hS.mem hL
   refine wpIn_seq <| rr_lit (by kernel_rfl) (fun _ _ h => hO _ _ h) <| ZF 24 ((N : Int) < (N : Int)) <| nT <| wpIn_seq <| wpIn_cond_false (by kernel_rfl) <| wpIn_exit <| au_then_exit <| au_then_exit <| au_block_exit <| au_then <| wpIn_seq <| rr_lit (by kernel_rfl) (fun _ _ h => hO _ _ h) <| rV 1 <| zJ 36 (.int .i64 ((s.size - 64 * i : Nat) : Int)) (.int .i64 ((s.extract (64 * i) s.size).size : Int)) (by rw [ext_size]) <| ZT 37 (((s.size - 64 * i : Nat) : Int) ≤ 64) ?_
   refine nT <| wpIn_cond_true (by kernel_rfl) <| wpIn_exit <| au_block_out (by decide) ?_
   have e : 64 * i + N = s.size := by rw [← hN, Nat.min_eq_left hc]; omega
   have hS3 := hS.next M hS.nr
   rw [e] at hS3
   exact hend _ _ hc hS3
  ·have M := hS.mem hL
   refine wpIn_seq <| rr_lit (by kernel_rfl) (fun _ _ h => hO _ _ h) <| ZF 24 ((N : Int) < (N : Int)) <| nT <| wpIn_seq <| wpIn_cond_false (by kernel_rfl) <| wpIn_exit <| au_then_exit <| au_then_exit <| au_block_exit <| au_then <| wpIn_seq <| rr_lit (by kernel_rfl) (fun _ _ h => hO _ _ h) <| rV 1 <| zJ 36 (.int .i64 ((s.size - 64 * i : Nat) : Int)) (.int .i64 ((s.extract (64 * i) s.size).size : Int)) (by rw [ext_size]) <| ZF 37 (((s.size - 64 * i : Nat) : Int) ≤ 64) ?_
   refine nT <| wpIn_cond_false (by kernel_rfl) <| wpIn_skip <| au_block ?_
   have e : N = 64 := by rw [← hN]; exact Nat.min_eq_right (by omega)
   have hS3 := hS.next M hS.nr
   rw [e] at hS3
   exact hgo _ _ (by omega) hS3
open Go.RowKit
def lpr (st : LoopState) (pe : Option Code) (fn : FuncId) (T : Array Value) (sg bd : Code) (D : Nat) : Loop := { state := st, pending := pe, fn := fn, tmps := T, params := #[15, 16], assign := sg, body := bd, defers := D }
def tF (k gs : Nat) (v : NV) : Array Value := #[v 0, v 1, pJ gs, v 3, v 4, pJ k, v 6, v 7, v 8, v 9, v 10, v 11, v 12, v 13, v 14, v 15, v 16, v 17, v 18, v 19, v 20, v 21, v 22, v 23, v 24, v 25, v 26, v 27, v 28, v 29, v 30, v 31, v 32, v 33, v 34, v 35, v 36, v 37, v 38]
theorem fr_is {a b : Act} (h : a = b) {c : Code} {F : Fence} {n : Nat} {P : Program} {Q : Exit → Act → World → Prop} {w : World} (k : c.wpIn F n P Q b w) : c.wpIn F n P Q a w := by
 rw [h]
 exact k
theorem rg_yieldN {P : Program} {a : Act} {w : World} {Q : Exit → Act → World → Prop} {id : Nat} {l : List Oper} (m : Nat) (hd : (l.take m).all ndB = true) (hQ : ∀ a w, ¬ Q .outgrown a w) (h : PL P l.toArray (Exit.then (wpListIn (FW none) 0 P l.toArray Q (l.drop m)) Q) (l.take m) a w) : (Code.region id l.toArray false).wp P Q a w := by
 refine (wpIn_wide (n := 0)).1 <| wpIn_region_lit (F := FW none) ?_
 have h2 := list_in_then (ro := none) (n := 0) (l.take m) a w hd hQ h.out
 rw [List.take_append_drop] at h2
 exact h2
theorem nr_loop (r : Loop) : NR (.loop r) := fun _ _ e => by cases e
theorem nr_def (x : Option (List Deferred)) : NR (.deferred x) := fun _ _ e => by cases e
theorem nr_cells (c : Array Value) (T : TypeId) (h : T ≠ 5) : NR (.cells c T) := fun _ _ e => by
 cases e
 exact h rfl
theorem nrs_nil : ∀ b ∈ ([] : List Blk), NR b.Z := fun _ h => by cases h
theorem nrs_cons {x : Blk} {L : List Blk} (h : NR x.Z) (hs : ∀ b ∈ L, NR b.Z) : ∀ b ∈ x :: L, NR b.Z := fun b hb => by
 rcases List.mem_cons.1 hb with rfl | hb
 ·exact h
 ·exact hs b hb
theorem c_stream (f : NI) (w : World) (hL : Laid w) : Calls Tryz.prog 129 #[.agg (av 16 (w32 f))] w fun r w' => ∃ g, r = .returned (.func (.func 162) #[] #[pJ g]) ∧ w.heap.size ≤ g ∧ w'.heap[g]? = some (.cells (av 16 (w32 f)) 149) ∧ Below w.heap.size w w' := by
 go_enter Tryz.func129, Tryz.ntmps129
 have M := Mem.start hL
 refine sR <| pN M 1 (.cells (av 16 (w32 f)) 149) fun g1 u1 M => rV 1 <| nT <| sq <| wp_ret ?_
 exact bX (.func (.func 162) #[] #[pJ g1]) ⟨g1, rfl, (M.ge _ (List.mem_of_getElem? (i := 0) rfl)).elim id (fun h => by cases h), M.get 0 rfl, below_grown M.old⟩
theorem perm_last {α : Type} (x : α) : ∀ (L : List α), (L ++ [x]).Perm (x :: L) := fun L => List.perm_append_singleton x L
theorem c_iter (sg bd : Code) (hb : Tryz.f100.body.bind findRange = some (sg, bd)) (s : Yb) (f : NI) (hz : s.size ≤ 200000) (k gs gc lp D : Nat) (fn : FuncId) (v : NV) (w u : World) (hL : Laid w)
  (hS : ST w k [] [⟨gs, .cells (av 1 (fun _ => .string s)) 9⟩, ⟨gc, .cells (av 16 (w32 f)) 149⟩, ⟨lp, .loop (lpr .ready none fn (tF k gs v) sg bd D)⟩, ⟨D, .deferred (some [])⟩] u) : Calls Tryz.prog 162 #[.func (.yield lp) #[] #[], pJ gc] u fun e u' => (∃ v, e = .returned v) ∧ ST w k (ot f s s.size) [⟨gs, .cells (av 1 (fun _ => .string s)) 9⟩, ⟨gc, .cells (av 16 (w32 f)) 149⟩, ⟨lp, .loop (lpr .done (some (.exit 0)) fn (tF k gs v) sg bd D)⟩, ⟨D, .deferred (some [])⟩] u' := by
 go_enter Tryz.func162, Tryz.ntmps162
 have M := hS.mem hL
 refine sR <| pA M 5 1 16 (w32 f) <| pN M 3 (.cells (av 16 (w32 (fun _ => 0))) 149) fun g1 u1 M => ZG M 4 16 (w32 f) fun u2 M => nT <| sq <| wp_block ?_
 have hS1 := hS.next M (nrs_cons (nr_cells _ _ (by decide)) (nrs_cons (nr_cells _ _ (by decide)) (nrs_cons (nr_loop _) (nrs_cons (nr_def _) (nrs_cons (nr_cells _ _ (by decide)) (nrs_nil))))))
 obtain ⟨N, hN⟩ : ∃ N, N = (s.size - 1) / 64 := ⟨_, rfl⟩
 refine au_loop (fun j a u => ∃ v1 : NV, a = (fm ([.func (.yield lp) #[] #[], pJ gc, undef, pJ g1, .int .i64 ((64 * j : Nat) : Int), .agg (av 16 (w32 f))] ++ vr v1 6 11)) ∧ ST w k (ot f s (64 * j)) [⟨gs, .cells (av 1 (fun _ => .string s)) 9⟩, ⟨gc, .cells (av 16 (w32 f)) 149⟩, ⟨lp, .loop (lpr .ready none fn (tF k gs v) sg bd D)⟩, ⟨D, .deferred (some [])⟩, ⟨g1, .cells (av 16 (w32 (sw f j))) 149⟩] u) N (exS hS1) ?_ ?_
 ·intro j a u0 hj hI
  clear hS1 M hS
  obtain ⟨v1, rfl, hS⟩ := hI
  have M := hS.mem hL
  refine wp_seq <| wp_seq <| rg_yieldN 4 (by kernel_rfl) (fun _ _ h => by obtain ⟨⟨_, e⟩, _⟩ := h; cases e) ?_
  simp only [List.take_succ_cons, List.take_zero, List.drop_succ_cons, List.drop_zero]
  refine rV 2 <| pA M 8 4 16 (w32 (sw f j)) <| ZC M 9 (fun w M => c_block (sw f j) w M.laid) fun u3 M => nT ?_
  have hS2 := hS.next M (nrs_cons (nr_cells _ _ (by decide)) (nrs_cons (nr_cells _ _ (by decide)) (nrs_cons (nr_loop _) (nrs_cons (nr_def _) (nrs_cons (nr_cells _ _ (by decide)) (nrs_nil))))))
  refine pl_yield lp (lpr .ready none fn (tF k gs v) sg bd D) #[.int .i64 ((64 * j : Nat) : Int), .agg (av 64 (w8 (bl (sw f j))))] (M.get 2 rfl) rfl rfl (by kernel_rfl) (fun _ => by kernel_rfl) (want_no rfl) <| code_is1 (O := Tryz.f100.body.bind findRange) rfl hb <| fr_is (b := (fm ([v 0, v 1, pJ gs, v 3, v 4, pJ k] ++ vr v 6 9 ++ [.int .i64 ((64 * j : Nat) : Int), .agg (av 64 (w8 (bl (sw f j))))] ++ vr v 17 22))) (by kernel_rfl) <| wpIn_seq <| rr_lit (by kernel_rfl) (fun _ _ h => h) <| rV 1 <| nT <| rr_lit (by kernel_rfl) (fun _ _ h => h) <| pN M 7 (.cells (av 64 (w8 (fun _ => 0))) 159) fun g52 u54 M => ZG M 5 64 (w8 (bl (sw f j))) fun u55 M => nT ?_
  refine ⟨M.get 2 rfl, ?_⟩
  have hS3 := (hS.next M (nrs_cons (nr_cells _ _ (by decide)) (nrs_cons (nr_cells _ _ (by decide)) (nrs_cons (nr_loop _) (nrs_cons (nr_def _) (nrs_cons (nr_cells _ _ (by decide)) (nrs_cons (nr_cells _ _ (by decide)) (nrs_nil)))))))).put hL 2 lp _ (.loop { lpr .ready none fn (tF k gs v) sg bd D with state := .busy }) rfl (nr_loop _)
  refine fr_is (b := (fm ([v 0, v 1, pJ gs, v 3, v 4, pJ k, .int .i64 ((64 * j : Nat) : Int), pJ g52] ++ vr v 8 7 ++ [.int .i64 ((64 * j : Nat) : Int), .agg (av 64 (w8 (bl (sw f j))))] ++ vr v 17 22))) (by kernel_rfl) ?_
  refine r_body sg bd hb s f j (by omega) hz k gs g52 lp [⟨gc, .cells (av 16 (w32 f)) 149⟩, ⟨lp, .loop (lpr .busy none fn (tF k gs v) sg bd D)⟩, ⟨D, .deferred (some [])⟩, ⟨g1, .cells (av 16 (w32 (sw f j))) 149⟩] (fun k_ => ([v 0, v 1, pJ gs, v 3, v 4, pJ k, .int .i64 ((64 * j : Nat) : Int), pJ g52, v 8, v 9, v 10, v 11, v 12, v 13, v 14, .int .i64 ((64 * j : Nat) : Int), .agg (av 64 (w8 (bl (sw f j)))), v 17, v 18, v 19, v 20, v 21, v 22, v 23, v 24, v 25, v 26, v 27, v 28, v 29, v 30, v 31, v 32, v 33, v 34, v 35, v 36, v 37, v 38] : List Value).getD (k_ - 0) undef) w _ hL _ (fun _ _ h => h) (fun _ _ _ h => h) (hS3.perm (.cons _ (perm_last _ [_, _, _, _]))) ?_ ?_
  ·intro a9 u9 hc hS4
   refine ⟨lpr .busy none fn (tF k gs v) sg bd D, hS4.at_ _ (List.mem_of_getElem? (i := 3) rfl), ?_⟩
   have hS5 := (hS4.put hL 3 lp _ (.loop { lpr .busy none fn (tF k gs v) sg bd D with state := .ready, pending := none }) rfl (nr_loop _)).drop (.cons_cons _ (.cons _ (.cons_cons _ (.cons_cons _ (.cons_cons _ (.cons_cons _ .slnil))))))
   generalize u9.putObj lp _ = u8 at hS5 ⊢
   have hS6 : ST w k (ot f s (64 * j + 64)) [⟨gs, .cells (av 1 (fun _ => .string s)) 9⟩, ⟨gc, .cells (av 16 (w32 f)) 149⟩, ⟨lp, .loop (lpr .ready none fn (tF k gs v) sg bd D)⟩, ⟨D, .deferred (some [])⟩, ⟨g1, .cells (av 16 (w32 (sw f j))) 149⟩] u8 := hS5
   have M := hS6.mem hL
   refine au_then <| cT <| wp_skip <| au_then <| wp_seq <| wp_block <| rg_lit <| rV 1 <| ZE M 14 4 12 <| rV 2 <| ZP32 M 4 12 (va ((sw f j) 12) 1) fun u56 M => pl_nil <| au_block <| au_then <| rg_lit <| rV 1 ?_
   refine ZI 12 (((64 * j : Nat) : Int) + 64) ((64 * (j + 1) : Nat) : Int) <| rV 1 <| nT ?_
   exact exS (hS6.next M (nrs_cons (nr_cells _ _ (by decide)) (nrs_cons (nr_cells _ _ (by decide)) (nrs_cons (nr_loop _) (nrs_cons (nr_def _) (nrs_cons (nr_cells _ _ (by decide)) (nrs_nil)))))))
  ·intro a9 u9 hc _
   exact absurd hc (by omega)
 ·intro a u0 hI
  clear hS1 M hS
  obtain ⟨v1, rfl, hS⟩ := hI
  have M := hS.mem hL
  refine wp_seq <| wp_seq <| rg_yieldN 4 (by kernel_rfl) (fun _ _ h => by obtain ⟨⟨_, e⟩, _⟩ := h; cases e) ?_
  simp only [List.take_succ_cons, List.take_zero, List.drop_succ_cons, List.drop_zero]
  refine rV 2 <| pA M 8 4 16 (w32 (sw f N)) <| ZC M 9 (fun w M => c_block (sw f N) w M.laid) fun u57 M => nT ?_
  have hS2 := hS.next M (nrs_cons (nr_cells _ _ (by decide)) (nrs_cons (nr_cells _ _ (by decide)) (nrs_cons (nr_loop _) (nrs_cons (nr_def _) (nrs_cons (nr_cells _ _ (by decide)) (nrs_nil))))))
  refine pl_yield lp (lpr .ready none fn (tF k gs v) sg bd D) #[.int .i64 ((64 * N : Nat) : Int), .agg (av 64 (w8 (bl (sw f N))))] (M.get 2 rfl) rfl rfl (by kernel_rfl) (fun _ => by kernel_rfl) (want_no rfl) <| code_is1 (O := Tryz.f100.body.bind findRange) rfl hb <| fr_is (b := (fm ([v 0, v 1, pJ gs, v 3, v 4, pJ k] ++ vr v 6 9 ++ [.int .i64 ((64 * N : Nat) : Int), .agg (av 64 (w8 (bl (sw f N))))] ++ vr v 17 22))) (by kernel_rfl) <| wpIn_seq <| rr_lit (by kernel_rfl) (fun _ _ h => h) <| rV 1 <| nT <| rr_lit (by kernel_rfl) (fun _ _ h => h) <| pN M 7 (.cells (av 64 (w8 (fun _ => 0))) 159) fun g103 u108 M => ZG M 5 64 (w8 (bl (sw f N))) fun u109 M => nT ?_
  refine ⟨M.get 2 rfl, ?_⟩
  have hS3 := (hS.next M (nrs_cons (nr_cells _ _ (by decide)) (nrs_cons (nr_cells _ _ (by decide)) (nrs_cons (nr_loop _) (nrs_cons (nr_def _) (nrs_cons (nr_cells _ _ (by decide)) (nrs_cons (nr_cells _ _ (by decide)) (nrs_nil)))))))).put hL 2 lp _ (.loop { lpr .ready none fn (tF k gs v) sg bd D with state := .busy }) rfl (nr_loop _)
  refine fr_is (b := (fm ([v 0, v 1, pJ gs, v 3, v 4, pJ k, .int .i64 ((64 * N : Nat) : Int), pJ g103] ++ vr v 8 7 ++ [.int .i64 ((64 * N : Nat) : Int), .agg (av 64 (w8 (bl (sw f N))))] ++ vr v 17 22))) (by kernel_rfl) ?_
  refine r_body sg bd hb s f N (by omega) hz k gs g103 lp [⟨gc, .cells (av 16 (w32 f)) 149⟩, ⟨lp, .loop (lpr .busy none fn (tF k gs v) sg bd D)⟩, ⟨D, .deferred (some [])⟩, ⟨g1, .cells (av 16 (w32 (sw f N))) 149⟩] (fun k_ => ([v 0, v 1, pJ gs, v 3, v 4, pJ k, .int .i64 ((64 * N : Nat) : Int), pJ g103, v 8, v 9, v 10, v 11, v 12, v 13, v 14, .int .i64 ((64 * N : Nat) : Int), .agg (av 64 (w8 (bl (sw f N)))), v 17, v 18, v 19, v 20, v 21, v 22, v 23, v 24, v 25, v 26, v 27, v 28, v 29, v 30, v 31, v 32, v 33, v 34, v 35, v 36, v 37, v 38] : List Value).getD (k_ - 0) undef) w _ hL _ (fun _ _ h => h) (fun _ _ _ h => h) (hS3.perm (.cons _ (perm_last _ [_, _, _, _]))) ?_ ?_
  ·intro a9 u9 hc _
   exact absurd hc (by omega)
  ·intro a9 u9 hc hS4
   refine ⟨lpr .busy none fn (tF k gs v) sg bd D, hS4.at_ _ (List.mem_of_getElem? (i := 3) rfl), ?_⟩
   have hS5 := (hS4.put hL 3 lp _ (.loop { lpr .busy none fn (tF k gs v) sg bd D with state := .done, pending := (some (.exit 0)) }) rfl (nr_loop _)).drop (.cons_cons _ (.cons _ (.cons_cons _ (.cons_cons _ (.cons_cons _ (.cons_cons _ .slnil))))))
   generalize u9.putObj lp _ = u8 at hS5 ⊢
   have hS6 : ST w k (ot f s s.size) [⟨gs, .cells (av 1 (fun _ => .string s)) 9⟩, ⟨gc, .cells (av 16 (w32 f)) 149⟩, ⟨lp, .loop (lpr .done (some (.exit 0)) fn (tF k gs v) sg bd D)⟩, ⟨D, .deferred (some [])⟩, ⟨g1, .cells (av 16 (w32 (sw f N))) 149⟩] u8 := hS5
   have M := hS6.mem hL
   refine au_then <| cF <| wp_exit <| au_then_exit <| au_then_exit <| au_block_exit ?_
   exact bodyPost_end (v := .tuple #[]) (results_none Tryz.results162 _ _) (by kernel_rfl) ⟨⟨_, rfl⟩, (hS6.next M (nrs_cons (nr_cells _ _ (by decide)) (nrs_cons (nr_cells _ _ (by decide)) (nrs_cons (nr_loop _) (nrs_cons (nr_def _) (nrs_cons (nr_cells _ _ (by decide)) (nrs_nil))))))).drop (.cons_cons _ (.cons_cons _ (.cons_cons _ (.cons_cons _ (.cons _ .slnil)))))⟩
open Go.RowKit
open Go.Shelf
theorem ST.alloc2 {w u : World} {k : Nat} {l : List UInt8} {L : List Blk} (h : ST w k l L u) (hL : Laid w) (Z1 Z2 : Obj) (h1 : NR Z1) (h2 : NR Z2) : ST w k l (L ++ [⟨u.heap.size, Z1⟩, ⟨u.heap.size + 1, Z2⟩]) ((u.alloc Z1).alloc Z2) := by
 have M1 := (h.mem hL).new u.heap.size Z1 (new_below u Z1) (heap_alloc_new u Z1) (Nat.le_refl _)
 have e : (u.alloc Z1).heap.size = u.heap.size + 1 := World.size_alloc _ _
 have M2 := M1.new (u.heap.size + 1) Z2 (new_below (u.alloc Z1) Z2) (by rw [← e]; exact heap_alloc_new (u.alloc Z1) Z2) (by rw [e]; exact Nat.le_refl _)
 have h3 := h.next M2 (fun b hb => by
  rcases List.mem_append.1 hb with hb | hb
  ·rcases List.mem_append.1 hb with hb | hb
   ·exact h.nr b hb
   ·rw [List.mem_singleton.1 hb]
    exact h1
  ·rw [List.mem_singleton.1 hb]
   exact h2)
 rw [List.append_assoc] at h3
 exact h3
theorem ST.get {w u : World} {k : Nat} {l : List UInt8} {L : List Blk} (h : ST w k l L u) (i : Nat) {g : Nat} {Z : Obj} (hi : L[i]? = some ⟨g, Z⟩) : u.heap[g]? = some Z := h.at_ _ (List.mem_of_getElem? hi)
theorem ST.start {w u : World} {gs gf k n : Nat} {Zs Zf : Obj} (M : Mem ⟨w, []⟩ [⟨gs, Zs⟩, ⟨gf, Zf⟩, ⟨k, .cells (av 2 bF0) 177⟩] u) (h1 : gs < k) (h2 : gf < k) (hs : NR Zs) (hf : NR Zf) (hn : n ≤ 200000) : Calls Tryz.prog 128 #[pJ k, .int .i64 (n : Int)] u fun r u' => r = .returned (.tuple #[]) ∧ ST w k [] [⟨gs, Zs⟩, ⟨gf, Zf⟩] u' := by
 have hkl : k < u.heap.size := (Array.getElem?_eq_some_iff.1 (M.get 2 rfl)).1
 have g1 : w.heap.size ≤ gs := (M.ge _ (List.mem_of_getElem? (i := 0) rfl)).elim id (fun h => by cases h)
 have g2 : w.heap.size ≤ gf := (M.ge _ (List.mem_of_getElem? (i := 1) rfl)).elim id (fun h => by cases h)
 refine (Any.Builder_Grow_fresh (P := Tryz.prog) (ρ := repRen) lays165 repExtra k k n u (Nat.le_refl _) (M.get 2 rfl) (by omega) (by omega)).mono ?_
 rintro r u' ⟨rfl, h3, h4⟩
 have hb0 : Below w.heap.size w u := below_grown M.old
 refine ⟨rfl, hb0.trans (h4.mono (by omega)), by omega, .inr (Lib.BuilderAtF.of h3), ?_, ?_, nrs_cons hs (nrs_cons hf nrs_nil), ?_, ?_⟩
 ·intro b hb
  rcases List.mem_cons.1 hb with rfl | hb
  ·exact (h4.block gs h1).trans (M.get 0 rfl)
  ·rw [List.mem_singleton.1 hb]
   exact (h4.block gf h2).trans (M.get 1 rfl)
 ·intro b hb
  rcases List.mem_cons.1 hb with rfl | hb
  ·show gs ≠ k
   omega
  ·rw [List.mem_singleton.1 hb]
   show gf ≠ k
   omega
 ·intro b hb
  rcases List.mem_cons.1 hb with rfl | hb
  ·exact g1
  ·rw [List.mem_singleton.1 hb]
   exact g2
 ·have := M.nodup
  simp at this
  simp [this.1.1]
theorem c_iterT (sg bd : Code) (hb : Tryz.f100.body.bind findRange = some (sg, bd)) (s : Yb) (f : NI) (hz : s.size ≤ 200000) (k gs gc lp D : Nat) (fn : FuncId) (v : NV) (T : Array Value) (hT : T = tF k gs v) (w u : World) (hL : Laid w)
  (hS : ST w k [] [⟨gs, .cells (av 1 (fun _ => .string s)) 9⟩, ⟨gc, .cells (av 16 (w32 f)) 149⟩, ⟨lp, .loop (lpr .ready none fn T sg bd D)⟩, ⟨D, .deferred (some [])⟩] u) : Calls Tryz.prog 162 #[.func (.yield lp) #[] #[], pJ gc] u fun e u' => (∃ v, e = .returned v) ∧ ∃ r : Loop, r.state ≠ .busy ∧ r.pending = some (.exit 0) ∧ ST w k (ot f s s.size) [⟨gs, .cells (av 1 (fun _ => .string s)) 9⟩, ⟨gc, .cells (av 16 (w32 f)) 149⟩, ⟨lp, .loop r⟩, ⟨D, .deferred (some [])⟩] u' := by
 subst hT
 exact (c_iter sg bd hb s f hz k gs gc lp D fn v w u hL hS).mono fun e u' h => ⟨h.1, lpr .done (some (.exit 0)) fn (tF k gs v) sg bd D, (show LoopState.done ≠ LoopState.busy by decide), rfl, h.2⟩
theorem fr_w {a b : Act} (h : a = b) {c : Code} {P : Program} {Q : Exit → Act → World → Prop} {w : World} (k : c.wp P Q b w) : c.wp P Q a w := by
 rw [h]
 exact k
def oS (f : NI) (s : Yb) : ByteArray := ⟨(ot f s s.size).toArray⟩
theorem c_turned (s : Yb) (f : NI) (hz : s.size ≤ 200000) (w : World) (hL : Laid w) : Cs 100 #[.string s, .agg (av 16 (w32 f))] w (.string (oS f s)) := by
 refine (callsIn_wide (n := 0)).1 (callsIn_of_wp_marks Tryz.func100 rfl trivial ?_)
 refine (wpIn_wide (n := 0)).2 <| fr_w (b := (fm ([.string s, .agg (av 16 (w32 f))] ++ und 37))) (by kernel_rfl) ?_
 have M := Mem.start hL
 refine sR <| pN M 2 (.cells (av 1 (fun _ => .string s)) 9) fun g1 u1 M => pN M 3 (.cells (av 16 (w32 f)) 149) fun g2 u2 M => rV 1 <| nT <| sR <| pl_newB M (want_no rfl) (some 5) rfl (.cells (av 2 bF0) 177) (fun _ => by kernel_rfl) ?_
 intro g3 u3 hlt M
 refine nT <| sR <| ZE M 10 0 0 <| rV 1 <| pl_callr (want_no rfl) (some 12) rfl 128 #[pJ g3, .int .i64 (s.size : Int)] (.tuple #[]) _ (fun _ => by kernel_rfl) (ST.start M (hlt _ (List.mem_of_getElem? (i := 0) rfl)) (hlt _ (List.mem_of_getElem? (i := 1) rfl)) (nr_cells _ _ (by decide)) (nr_cells _ _ (by decide)) hz) ?_
 intro u4 hS
 clear M
 have M := hS.mem hL
 refine nT <| wp_seq <| sR <| pA M 13 1 16 (w32 f) <| pl_calln M (want_no rfl) (some 14) rfl 129 #[.agg (av 16 (w32 f))] (fun g4 => .func (.func 162) #[] #[pJ g4]) (.cells (av 16 (w32 f)) 149) (fun _ => by kernel_rfl) (fun w M => c_stream f w M.laid) fun g4 u5 M => nT <| wp_block ?_
 have hS1 := (hS.next M (nrs_cons (nr_cells _ _ (by decide)) (nrs_cons (nr_cells _ _ (by decide)) (nrs_cons (nr_cells _ _ (by decide)) nrs_nil)))).drop (L' := [⟨g1, .cells (av 1 (fun _ => .string s)) 9⟩, ⟨g4, .cells (av 16 (w32 f)) 149⟩]) (.cons_cons _ (.cons _ (.cons_cons _ .slnil)))
 refine fr_w (b := (fm ([.string s, .agg (av 16 (w32 f)), pJ g1, pJ g2, .string ⟨#[]⟩, pJ g3] ++ und 4 ++ [.string s, .int .i64 (s.size : Int), .tuple #[], .agg (av 16 (w32 f)), .func (.func 162) #[] #[pJ g4]] ++ und 24))) (by kernel_rfl) <| wp_range (gf := 162) (lb := #[pJ g4]) rfl (enters_of Tryz.func162 (by kernel_rfl) rfl) ?_
 intro fn
 refine (c_iterT _ _ rfl s f hz g3 g1 g4 _ _ fn (fun k_ => ([.string s, .agg (av 16 (w32 f)), pJ g1, pJ g2, .string ⟨#[]⟩, pJ g3, undef, undef, undef, undef, .string s, .int .i64 (s.size : Int), .tuple #[], .agg (av 16 (w32 f)), .func (.func 162) #[] #[pJ g4], undef, undef, undef, undef, undef, undef, undef, undef, undef, undef, undef, undef, undef, undef, undef, undef, undef, undef, undef, undef, undef, undef, undef, undef] : List Value).getD (k_ - 0) undef) _ (by kernel_rfl) w _ hL ((hS1.alloc2 hL _ _ (nr_def _) (nr_loop _)).perm (.cons _ (.cons _ (.swap _ _ _))))).mono ?_
 rintro e w3 ⟨he, r, hr1, hr2, hS2⟩
 refine ⟨he, r, hS2.get 2 rfl, hr1, ?_⟩
 rw [hr2]
 clear M
 refine wp_exit <| au_block_exit <| au_then <| sR <| pl_callr (want_no rfl) (some 38) rfl 131 #[pJ g3] (.string (oS f s)) _ (fun _ => by kernel_rfl) (hS2.put hL 2 _ _ _ rfl (nr_loop _)).str ?_
 intro u6 hS4
 refine rV 1 <| nT <| wp_ret ?_
 refine marks_ret (v := .string (oS f s)) rfl (hS4.get 3 rfl) (fun w => results_tmp1 Tryz.results100 _ w _ (by kernel_rfl)) ⟨rfl, (hS4.put hL 3 _ _ (.deferred none) rfl (nr_def _)).bel⟩
open Go.RowKit
theorem cvu64 (n : Nat) (h : n < 1000000000000) : cv .u64 (n : Int) = (n : Int) := by
 unfold cv
 simp [IntKind.wrap, IntKind.signed, IntKind.bits]
 omega
theorem wu64 (n : Nat) (h : n < 1000000000000) : IntKind.wrap .u64 (n : Int) = (n : Int) := cvu64 n h
theorem quoU (n : Nat) (h : n < 1000000000000) : IntKind.wrap .u64 ((n : Int).tdiv 64) = ((n / 64 : Nat) : Int) := by
 rw [Int.tdiv_eq_ediv_of_nonneg (by omega), show ((n : Int) / 64) = ((n / 64 : Nat) : Int) by omega, wu64 _ (by omega)]
theorem bl_nn (f : NI) (i : Nat) : 0 ≤ bl f i ∧ bl f i < 256 := by
 unfold bl cv
 simp [IntKind.wrap, IntKind.signed, IntKind.bits]
 omega
def blk (f : NI) : ByteArray := bs ((List.range 64).map (bl f))
theorem blk_size (f : NI) : (blk f).size = 64 := by
 unfold blk
 rw [bs_size]
 simp
theorem blk_nn (f : NI) : ∀ x ∈ (List.range 64).map (bl f), 0 ≤ x ∧ x < 256 := fun x hx => by
 obtain ⟨i, _, rfl⟩ := List.mem_map.1 hx
 exact bl_nn f i
def strE : ByteArray := ⟨#[]⟩
theorem c_areA (key nonce : Yb) (hk : key.size = 32) (hn : nonce.size = 12) (w : World) (hL : Laid w)  : Cs 98 #[.string key, .string nonce] w (.bool true) := by
 go_enter Tryz.func98, Tryz.ntmps98
 have M := Mem.start hL
 refine sq <| sR <| rV 2 <| ZT 7 ((key.size : Int) = 32) <| rV 3 <| ZT 11 ((nonce.size : Int) = 12) <| rV 2 <| nT <| wp_ret ?_
 exact b1 M
theorem c_areB (key nonce : Yb) (hk : key.size = 32) (hn : nonce.size ≠ 12) (w : World) (hL : Laid w)  : Cs 98 #[.string key, .string nonce] w (.bool false) := by
 go_enter Tryz.func98, Tryz.ntmps98
 have M := Mem.start hL
 refine sq <| sR <| rV 2 <| ZT 7 ((key.size : Int) = 32) <| rV 3 <| ZF 11 ((nonce.size : Int) = 12) <| rV 2 <| nT <| wp_ret ?_
 exact b1 M
theorem c_areC (key nonce : Yb) (hk : key.size ≠ 32) (w : World) (hL : Laid w)  : Cs 98 #[.string key, .string nonce] w (.bool false) := by
 go_enter Tryz.func98, Tryz.ntmps98
 have M := Mem.start hL
 refine sq <| sR <| rV 2 <| ZF 7 ((key.size : Int) = 32) <| rV 6 <| nT <| wp_ret ?_
 exact b1 M
theorem c_are (key nonce : Yb) (w : World) (hL : Laid w) : Calls Tryz.prog 98 #[.string key, .string nonce] w fun r w' => r = .returned (.bool (decide (key.size = 32 ∧ nonce.size = 12))) ∧ Below w.heap.size w w' := by
 by_cases hk : key.size = 32
 ·by_cases hn : nonce.size = 12
  ·rw [decide_eq_true ⟨hk, hn⟩]
   exact c_areA key nonce hk hn w hL
  ·rw [decide_eq_false (fun h => hn h.2)]
   exact c_areB key nonce hk hn w hL
 ·rw [decide_eq_false (fun h => hk h.1)]
  exact c_areC key nonce hk w hL
theorem d_mayA (key nonce : Yb) (hk : key.size = 32) (hn : nonce.size = 12) (w : World) (hL : Laid w)  : Cs 77 #[.string key, .string nonce] w (.bool true) := by
 go_enter Tryz.func77, Tryz.ntmps77
 have M := Mem.start hL
 refine sq <| sR <| rV 2 <| ZT 7 ((key.size : Int) = 32) <| rV 3 <| ZT 11 ((nonce.size : Int) = 12) <| rV 2 <| nT <| wp_ret ?_
 exact b1 M
theorem d_mayB (key nonce : Yb) (hk : key.size = 32) (hn : nonce.size ≠ 12) (w : World) (hL : Laid w)  : Cs 77 #[.string key, .string nonce] w (.bool false) := by
 go_enter Tryz.func77, Tryz.ntmps77
 have M := Mem.start hL
 refine sq <| sR <| rV 2 <| ZT 7 ((key.size : Int) = 32) <| rV 3 <| ZF 11 ((nonce.size : Int) = 12) <| rV 2 <| nT <| wp_ret ?_
 exact b1 M
theorem d_mayC (key nonce : Yb) (hk : key.size ≠ 32) (w : World) (hL : Laid w)  : Cs 77 #[.string key, .string nonce] w (.bool false) := by
 go_enter Tryz.func77, Tryz.ntmps77
 have M := Mem.start hL
 refine sq <| sR <| rV 2 <| ZF 7 ((key.size : Int) = 32) <| rV 6 <| nT <| wp_ret ?_
 exact b1 M
theorem d_may (key nonce : Yb) (w : World) (hL : Laid w) : Calls Tryz.prog 77 #[.string key, .string nonce] w fun r w' => r = .returned (.bool (decide (key.size = 32 ∧ nonce.size = 12))) ∧ Below w.heap.size w w' := by
 by_cases hk : key.size = 32
 ·by_cases hn : nonce.size = 12
  ·rw [decide_eq_true ⟨hk, hn⟩]
   exact d_mayA key nonce hk hn w hL
  ·rw [decide_eq_false (fun h => hn h.2)]
   exact d_mayB key nonce hk hn w hL
 ·rw [decide_eq_false (fun h => hk h.1)]
  exact d_mayC key nonce hk w hL
theorem c_need (s : Yb) (hz : s.size ≤ 200000) (w : World) (hL : Laid w)  : Cs 99 #[.string s] w (.int .u64 (((s.size + 63) / 64 : Nat) : Int)) := by
 go_enter Tryz.func99, Tryz.ntmps99
 have M := Mem.start hL
 refine sq <| sR <| rV 2 <| ZQ 5 .u64 (cv .u64 (s.size : Int)) (cvu64 _ (by omega)) <| zJ 6 (.int .u64 ((s.size + 64 : Nat) : Int)) (.int .u64 (IntKind.wrap .u64 ((s.size : Int) + 64))) (by rw [show (s.size : Int) + 64 = ((s.size + 64 : Nat) : Int) by omega, wu64 _ (by omega)]) <| zJ 7 (.int .u64 ((s.size + 63 : Nat) : Int)) (.int .u64 (IntKind.wrap .u64 (((s.size + 64 : Nat) : Int) - 1))) (by rw [show ((s.size + 64 : Nat) : Int) - 1 = ((s.size + 63 : Nat) : Int) by omega, wu64 _ (by omega)]) <| ZQ 8 .u64 (IntKind.wrap .u64 (((s.size + 63 : Nat) : Int).tdiv 64)) (quoU _ (by omega)) <| rV 1 <| nT <| wp_ret ?_
 exact b1 M
theorem c_BlockA (key nonce : Yb) (n : Int) (hm : (key.size = 32 ∧ nonce.size = 12)) (w : World) (hL : Laid w)  : Cs 102 #[.string key, .string nonce, .int .u32 n] w (.tuple #[.string (blk (fw key nonce n)), .int .i64 0]) := by
 go_enter Tryz.func102, Tryz.ntmps102
 have M := Mem.start hL
 refine sq <| wp_seq <| sR <| rV 2 <| pC M 11 98 #[.string key, .string nonce] (.bool true) (fun w M => (by rw [← decide_eq_true hm]; exact c_are key nonce w M.laid)) fun u1 M => rV 1 <| nT <| cF <| wp_skip <| au_then <| sR <| rV 3 <| ZC M 16 (fun w M => c_first key nonce n hm.1 hm.2 w M.laid) fun u2 M => ZC M 17 (fun w M => c_block (fw key nonce n) w M.laid) fun u3 M => pN M 8 (.cells (av 64 (w8 (fun _ => 0))) 159) fun g1 u4 M => ZG M 0 64 (w8 (bl (fw key nonce n))) fun u5 M => ?_
 refine nT <| sR <| rV 1 <| pl_back M (want_no rfl) (some 19) rfl _ rfl 0 g1 64 64 (by kernel_rfl) _ rfl ((List.range 64).map (bl (fw key nonce n))) 64 (sb_av 64 _ _) (by simp) (blk_nn _) <| rV 2 <| nT <| wp_ret ?_
 exact b1 M
theorem c_TurnA (key nonce : Yb) (n : Nat) (hn : n < 4294967296) (s : Yb) (hz : s.size ≤ 200000) (hm : (key.size = 32 ∧ nonce.size = 12)) (hl : ¬ (4294967296 < n + (s.size + 63) / 64)) (w : World) (hL : Laid w)  : Cs 72 #[.string key, .string nonce, .int .u32 (n : Int), .string s] w (.tuple #[.string (oS (fw key nonce (n : Int)) s), .int .i64 0]) := by
 go_enter Tryz.func72, Tryz.ntmps72
 have M := Mem.start hL
 refine sq <| wp_seq <| sR <| rV 2 <| pC M 12 98 #[.string key, .string nonce] (.bool true) (fun w M => (by rw [← decide_eq_true hm]; exact c_are key nonce w M.laid)) fun u1 M => rV 1 <| nT <| cF <| wp_skip <| au_then <| wp_seq <| sR <| rV 1 <| ZQ 15 .u64 (cv .u64 (n : Int)) (cvu64 _ (by omega)) <| rV 1 <| ZC M 17 (fun w M => c_need s hz w M.laid) fun u2 M => ?_
 refine zJ 18 (.int .u64 ((n + (s.size + 63) / 64 : Nat) : Int)) (.int .u64 (IntKind.wrap .u64 ((n : Int) + (((s.size + 63) / 64 : Nat) : Int)))) (by rw [show (n : Int) + (((s.size + 63) / 64 : Nat) : Int) = ((n + (s.size + 63) / 64 : Nat) : Int) by omega, wu64 _ (by omega)]) <| ZF 19 ((4294967296 : Int) < ((n + (s.size + 63) / 64 : Nat) : Int)) <| nT <| cF <| wp_skip <| au_then <| sR <| rV 4 <| ZC M 24 (fun w M => c_first key nonce (n : Int) hm.1 hm.2 w M.laid) fun u3 M => ZC M 25 (fun w M => c_turned s (fw key nonce (n : Int)) hz w M.laid) fun u4 M => rV 2 <| nT <| wp_ret ?_
 exact b1 M
open Go.RowKit
section
variable {P : Program} {ops : Array Oper} {rest : List Oper} {o : Oper} {a : Act} {w : World} {c : Ctx} {L : List Blk} {Q : Exit → Act → World → Prop}
theorem SB.put {Z : Obj} {cap : Nat} {l : List Value} (h : SB Z cap l) {i : Nat} (hi : i < l.length) (v : Value) {W : World} {g : Nat} (hz : W.heap[g]? = some Z) : ∃ Z', (W.setCell ⟨g, i, none⟩ v).heap[g]? = some Z' ∧ SB Z' cap (l.set i v) := by
 obtain ⟨cs, T, fr, rfl, h1, h2, h3, h4⟩ := h.ex
 refine ⟨.cells (cs.setIfInBounds i v) T fr, ?_, ⟨_, T, fr, rfl, by simpa using h1, by simpa using h2, fun j hj => ?_, h4⟩⟩
 ·simp [World.setCell, Array.getElem?_modify, hz]
 ·rw [List.length_set] at hj
  rw [Array.getElem?_setIfInBounds, List.getElem?_set]
  by_cases e : i = j
  ·subst e
   rw [if_pos rfl, if_pos rfl, if_pos (by omega), if_pos hi]
  ·rw [if_neg e, if_neg e, h3 j hj]
theorem SB.free {Z : Obj} {cap : Nat} {l : List Value} (h : SB Z cap l) {i : Nat} (hi : i < l.length) {W : World} {g : Nat} (hz : W.heap[g]? = some Z) : W.frozen? ⟨g, i, none⟩ = false := by
 obtain ⟨cs, T, fr, rfl, h1, h2, h3, h4⟩ := h.ex
 unfold World.frozen?
 rw [hz]
 exact h4 i (by omega)
theorem pl_putS (M : Mem c L w) (hw : Region.wanted o (yielded ops a.tmps) = true) (hd : o.dst = none) (ty : TypeId) (x y : Operand) (ho : o.op = .store ty x y) (i g off : Nat) (hx : a.eval x = pJ g off) (Z : Obj) (hi : L[i]? = some ⟨g, Z⟩) (cap : Nat) (l : List Value) (hs : SB Z cap l) (hk : off < l.length) (v : Value)
  (hy : a.eval y = v) (hz : (P.info? ty).map (·.size) = some 1) (h1 : v.oneCell' = true) (hc : v.cells = #[v])
  (h : ∀ Z' w', SB Z' cap (l.set off v) → Mem c (L.set i ⟨g, Z'⟩) w' → PL P ops Q rest a w') : PL P ops Q (o :: rest) a w := by
 have R := M.get i hi
 obtain ⟨Z', h2, h3⟩ := hs.put hk v R
 have h4 := h Z' (w.setCell ⟨g, off, none⟩ v) h3 (M.put i ⟨g, _⟩ hi _ (grown_setCell w g off v) h2)
 have hcell : w.cell? ⟨g, off, none⟩ = some l[off] := hs.cell R (List.getElem?_eq_getElem hk)
 have hrun : (Instr.storeAt ty (pJ g off) v).run P w = .ok () (w.setCell ⟨g, off, none⟩ v) := by
  cases hq : P.info? ty with
  | none => simp [hq] at hz
  | some t =>
   have ht : t.size = 1 := by simpa [hq] using hz
   have hcc := run_storeCells_cells (P := P) g off [v] 0 w (by intro j hj; simp at hj; subst hj; simp [hcell]) (by intro j hj; simp at hj; subst hj; simpa using hs.free hk R) (by simpa using h1)
   simp only [Nat.add_zero, World.setCells] at hcc
   simp [Instr.storeAt, Instr.sureAddr, storeVar, sizeOf, typeInfo, hq, ht, hc, hcc]
 refine ⟨Go.BigFrame.wpList_want hw fun K hK => ?_⟩
 unfold Oper.wp execOp
 simp only [ho, hx, hy, Sem.run_bind, hrun, Result.andThen_ok, Sem.run_pure]
 show K (a.put o.dst undef) _
 rw [hd]
 exact hK _ _ h4.out
end
def wd4 (s : Yb) : Int := vo (vo (vo (cv .u32 (bt s 0)) (vl (cv .u32 (bt s 1)) 8)) (vl (cv .u32 (bt s 2)) 16)) (vl (cv .u32 (bt s 3)) 24)
theorem d_word (s : Yb) (hs : s.size = 4) (w : World) (hL : Laid w)  : Cs 146 #[.string s] w (.int .u32 (wd4 s)) := by
 go_enter Tryz.func146, Tryz.ntmps146
 have M := Mem.start hL
 refine sq <| wp_seq <| rg_tail M 18 (by kernel_rfl) (by kernel_rfl) ?_
 simp only [List.take_succ_cons, List.take_zero]
 refine kR 1 <| kH 4 (.int .u8 (bt s 0)) (run_ixS 9 Tryz.underlying9 _ _ rfl s (by kernel_rfl) .i64 0 (by kernel_rfl) (by omega)) <| kR 2 <| kH 7 (.int .u8 (bt s 1)) (run_ixS 9 Tryz.underlying9 _ _ rfl s (by kernel_rfl) .i64 1 (by kernel_rfl) (by omega)) <| kR 4 <| kH 12 (.int .u8 (bt s 2)) (run_ixS 9 Tryz.underlying9 _ _ rfl s (by kernel_rfl) .i64 2 (by kernel_rfl) (by omega)) <| kR 4 <| kH 17 (.int .u8 (bt s 3)) (run_ixS 9 Tryz.underlying9 _ _ rfl s (by kernel_rfl) .i64 3 (by kernel_rfl) (by omega)) <| kR 3 <| kl_nil fun u1 M => rV 1 <| nT <| wp_ret ?_
 exact b1 M
def e1 (v : NI) (p0 p1 : Nat) : Nat → Int := upd v p0 (va (v p0) (v p1))
def e2 (v : NI) (p0 p1 p3 : Nat) : Nat → Int := upd (e1 v p0 p1) p3 (vx ((e1 v p0 p1) p3) ((e1 v p0 p1) p0))
def e3 (v : NI) (p0 p1 p3 : Nat) : Nat → Int := upd (e2 v p0 p1 p3) p3 (rl ((e2 v p0 p1 p3) p3) 16)
def e4 (v : NI) (p0 p1 p2 p3 : Nat) : Nat → Int := upd (e3 v p0 p1 p3) p2 (va ((e3 v p0 p1 p3) p2) ((e3 v p0 p1 p3) p3))
def e5 (v : NI) (p0 p1 p2 p3 : Nat) : Nat → Int := upd (e4 v p0 p1 p2 p3) p1 (vx ((e4 v p0 p1 p2 p3) p1) ((e4 v p0 p1 p2 p3) p2))
def e6 (v : NI) (p0 p1 p2 p3 : Nat) : Nat → Int := upd (e5 v p0 p1 p2 p3) p1 (rl ((e5 v p0 p1 p2 p3) p1) 12)
def e7 (v : NI) (p0 p1 p2 p3 : Nat) : Nat → Int := upd (e6 v p0 p1 p2 p3) p0 (va ((e6 v p0 p1 p2 p3) p0) ((e6 v p0 p1 p2 p3) p1))
def e8 (v : NI) (p0 p1 p2 p3 : Nat) : Nat → Int := upd (e7 v p0 p1 p2 p3) p3 (vx ((e7 v p0 p1 p2 p3) p3) ((e7 v p0 p1 p2 p3) p0))
def e9 (v : NI) (p0 p1 p2 p3 : Nat) : Nat → Int := upd (e8 v p0 p1 p2 p3) p3 (rl ((e8 v p0 p1 p2 p3) p3) 8)
def e10 (v : NI) (p0 p1 p2 p3 : Nat) : Nat → Int := upd (e9 v p0 p1 p2 p3) p2 (va ((e9 v p0 p1 p2 p3) p2) ((e9 v p0 p1 p2 p3) p3))
def e11 (v : NI) (p0 p1 p2 p3 : Nat) : Nat → Int := upd (e10 v p0 p1 p2 p3) p1 (vx ((e10 v p0 p1 p2 p3) p1) ((e10 v p0 p1 p2 p3) p2))
def e12 (v : NI) (p0 p1 p2 p3 : Nat) : Nat → Int := upd (e11 v p0 p1 p2 p3) p1 (rl ((e11 v p0 p1 p2 p3) p1) 7)
theorem up_at (f : NI) (k : Nat) (x : Int) : upd f k x k = x := if_pos rfl
theorem up_ne (f : NI) (k : Nat) (x : Int) {j : Nat} (h : j ≠ k) : upd f k x j = f j := if_neg h
theorem up_up (f : NI) (k : Nat) (x y : Int) : upd (upd f k x) k y = upd f k y := by
 funext t
 unfold upd
 split <;> rfl
theorem up_comm (f : NI) {i j : Nat} (h : i ≠ j) (x y : Int) : upd (upd f i x) j y = upd (upd f j y) i x := by
 funext t
 unfold upd
 by_cases h1 : t = j
 ·subst h1
  rw [if_pos rfl, if_neg (Ne.symm h), if_pos rfl]
 ·rw [if_neg h1, if_neg h1]
theorem e12_eq (v : NI) (i j k l : Nat) (hij : i ≠ j) (hik : i ≠ k) (hil : i ≠ l) (hjk : j ≠ k) (hjl : j ≠ l) (hkl : k ≠ l) : e12 v i j k l = mxF v i j k l := by
 have a3 : e3 v i j l = upd (upd v i (mA1 v i j)) l (mD1 v i j l) := by
  unfold e3 e2 e1 mD1 mA1
  rw [up_up, up_at, up_ne _ _ _ (Ne.symm hil), up_at]
 have a4 : e4 v i j k l = upd (upd (upd v i (mA1 v i j)) l (mD1 v i j l)) k (mC1 v i j k l) := by
  unfold e4 mC1
  rw [a3, up_at, up_ne _ _ _ hkl, up_ne _ _ _ (Ne.symm hik)]
 have a6 : e6 v i j k l = upd (upd (upd (upd v i (mA1 v i j)) l (mD1 v i j l)) k (mC1 v i j k l)) j (mB1 v i j k l) := by
  unfold e6 e5 mB1
  rw [up_up, up_at, a4, up_at, up_ne _ _ _ hjk, up_ne _ _ _ hjl, up_ne _ _ _ (Ne.symm hij)]
 have a7 : e7 v i j k l = upd (e6 v i j k l) i (mA2 v i j k l) := by
  unfold e7 mA2
  rw [a6, up_at, up_ne _ _ _ hij, up_ne _ _ _ hik, up_ne _ _ _ hil, up_at]
 have a9 : e9 v i j k l = upd (e7 v i j k l) l (mD2 v i j k l) := by
  unfold e9 e8 mD2
  rw [up_up, up_at, a7, up_at, a6, up_ne _ _ _ (Ne.symm hil), up_ne _ _ _ (Ne.symm hjl), up_ne _ _ _ (Ne.symm hkl), up_at]
 have a10 : e10 v i j k l = upd (e9 v i j k l) k (mC2 v i j k l) := by
  unfold e10 mC2
  rw [a9, up_at, a7, a6, up_ne _ _ _ hkl, up_ne _ _ _ (Ne.symm hik), up_ne _ _ _ (Ne.symm hjk), up_at]
 have a12 : e12 v i j k l = upd (e10 v i j k l) j (mB2 v i j k l) := by
  unfold e12 e11 mB2
  rw [up_up, up_at, a10, up_at, a9, a7, a6, up_ne _ _ _ hjk, up_ne _ _ _ hjl, up_ne _ _ _ (Ne.symm hij), up_at]
 rw [a12, a10, a9, a7, a6]
 funext t
 unfold mxF upd
 by_cases h1 : t = l
 ·subst h1
  simp [Ne.symm hjl, Ne.symm hkl]
 ·by_cases h2 : t = k
  ·subst h2
   simp [h1, Ne.symm hjk]
  ·by_cases h3 : t = j
   ·subst h3
    simp [h1, h2]
   ·by_cases h4 : t = i
    ·subst h4
     simp [h1, h2, h3]
    ·simp [h1, h2, h3, h4]
theorem d_quarter (v : NI) (p0 p1 p2 p3 : Nat) (h0 : p0 < 16) (h1 : p1 < 16) (h2 : p2 < 16) (h3 : p3 < 16) (d0 : p0 ≠ p1) (d1 : p0 ≠ p2) (d2 : p0 ≠ p3) (d3 : p1 ≠ p2) (d4 : p1 ≠ p3) (d5 : p2 ≠ p3) (w : World) (hL : Laid w)  : Cs 147 #[.agg (av 16 (w32 v)), .int .i64 (p0 : Int), .int .i64 (p1 : Int), .int .i64 (p2 : Int), .int .i64 (p3 : Int)] w (.agg (av 16 (w32 (mxF v p0 p1 p2 p3)))) := by
 go_enter Tryz.func147, Tryz.ntmps147
 have M := Mem.start hL
 refine sR <| pN M 5 (.cells (av 16 (w32 v)) 148) fun g1 u1 M => pN M 10 (.cells (av 16 (w32 (fun _ => 0))) 148) fun g2 u2 M => nT <| wp_seq <| rg_tail M 9 (by kernel_rfl) (by kernel_rfl) ?_
 simp only [List.take_succ_cons, List.take_zero]
 refine kR 2 <| eX 13 .i64 g1 (p0) 16 <| eE M 14 0 p0 <| kR 1 <| eX 16 .i64 g1 (p1) 16 <| eE M 17 0 p1 <| kR 1 <| eX 19 .i64 g1 (p0) 16 <| kl_nil fun u3 M => ZP32 M 0 p0 (va (v p0) (v p1)) fun u4 M => nT <| wp_seq <| rg_tail M 9 (by kernel_rfl) (by kernel_rfl) ?_
 simp only [List.take_succ_cons, List.take_zero]
 refine kR 2 <| eX 22 .i64 g1 (p3) 16 <| eE M 23 0 p3 <| kR 1 <| eX 25 .i64 g1 (p0) 16 <| eE M 26 0 p0 <| kR 1 <| eX 28 .i64 g1 (p3) 16 <| kl_nil fun u5 M => ZP32 M 0 p3 (vx ((e1 v p0 p1) p3) ((e1 v p0 p1) p0)) fun u6 M => nT <| wp_seq <| rg_tail M 11 (by kernel_rfl) (by kernel_rfl) ?_
 simp only [List.take_succ_cons, List.take_zero]
 refine kR 2 <| eX 31 .i64 g1 (p3) 16 <| eE M 32 0 p3 <| kR 2 <| eX 35 .i64 g1 (p3) 16 <| eE M 36 0 p3 <| kR 2 <| eX 39 .i64 g1 (p3) 16 <| kl_nil fun u7 M => ZP32 M 0 p3 (vo (vl ((e2 v p0 p1 p3) p3) 16) (sr ((e2 v p0 p1 p3) p3) 16)) fun u8 M => nT <| wp_seq <| rg_tail M 9 (by kernel_rfl) (by kernel_rfl) ?_
 simp only [List.take_succ_cons, List.take_zero]
 refine kR 2 <| eX 42 .i64 g1 (p2) 16 <| eE M 43 0 p2 <| kR 1 <| eX 45 .i64 g1 (p3) 16 <| eE M 46 0 p3 <| kR 1 <| eX 48 .i64 g1 (p2) 16 <| kl_nil fun u9 M => ZP32 M 0 p2 (va ((e3 v p0 p1 p3) p2) ((e3 v p0 p1 p3) p3)) fun u10 M => nT <| wp_seq <| rg_tail M 9 (by kernel_rfl) (by kernel_rfl) ?_
 simp only [List.take_succ_cons, List.take_zero]
 refine kR 2 <| eX 51 .i64 g1 (p1) 16 <| eE M 52 0 p1 <| kR 1 <| eX 54 .i64 g1 (p2) 16 <| eE M 55 0 p2 <| kR 1 <| eX 57 .i64 g1 (p1) 16 <| kl_nil fun u11 M => ZP32 M 0 p1 (vx ((e4 v p0 p1 p2 p3) p1) ((e4 v p0 p1 p2 p3) p2)) fun u12 M => nT <| wp_seq <| rg_tail M 11 (by kernel_rfl) (by kernel_rfl) ?_
 simp only [List.take_succ_cons, List.take_zero]
 refine kR 2 <| eX 60 .i64 g1 (p1) 16 <| eE M 61 0 p1 <| kR 2 <| eX 64 .i64 g1 (p1) 16 <| eE M 65 0 p1 <| kR 2 <| eX 68 .i64 g1 (p1) 16 <| kl_nil fun u13 M => ZP32 M 0 p1 (vo (vl ((e5 v p0 p1 p2 p3) p1) 12) (sr ((e5 v p0 p1 p2 p3) p1) 20)) fun u14 M => nT <| wp_seq <| rg_tail M 9 (by kernel_rfl) (by kernel_rfl) ?_
 simp only [List.take_succ_cons, List.take_zero]
 refine kR 2 <| eX 71 .i64 g1 (p0) 16 <| eE M 72 0 p0 <| kR 1 <| eX 74 .i64 g1 (p1) 16 <| eE M 75 0 p1 <| kR 1 <| eX 77 .i64 g1 (p0) 16 <| kl_nil fun u15 M => ZP32 M 0 p0 (va ((e6 v p0 p1 p2 p3) p0) ((e6 v p0 p1 p2 p3) p1)) fun u16 M => nT <| wp_seq <| rg_tail M 9 (by kernel_rfl) (by kernel_rfl) ?_
 simp only [List.take_succ_cons, List.take_zero]
 refine kR 2 <| eX 80 .i64 g1 (p3) 16 <| eE M 81 0 p3 <| kR 1 <| eX 83 .i64 g1 (p0) 16 <| eE M 84 0 p0 <| kR 1 <| eX 86 .i64 g1 (p3) 16 <| kl_nil fun u17 M => ZP32 M 0 p3 (vx ((e7 v p0 p1 p2 p3) p3) ((e7 v p0 p1 p2 p3) p0)) fun u18 M => nT <| wp_seq <| rg_tail M 11 (by kernel_rfl) (by kernel_rfl) ?_
 simp only [List.take_succ_cons, List.take_zero]
 refine kR 2 <| eX 89 .i64 g1 (p3) 16 <| eE M 90 0 p3 <| kR 2 <| eX 93 .i64 g1 (p3) 16 <| eE M 94 0 p3 <| kR 2 <| eX 97 .i64 g1 (p3) 16 <| kl_nil fun u19 M => ZP32 M 0 p3 (vo (vl ((e8 v p0 p1 p2 p3) p3) 8) (sr ((e8 v p0 p1 p2 p3) p3) 24)) fun u20 M => nT <| wp_seq <| rg_tail M 9 (by kernel_rfl) (by kernel_rfl) ?_
 simp only [List.take_succ_cons, List.take_zero]
 refine kR 2 <| eX 100 .i64 g1 (p2) 16 <| eE M 101 0 p2 <| kR 1 <| eX 103 .i64 g1 (p3) 16 <| eE M 104 0 p3 <| kR 1 <| eX 106 .i64 g1 (p2) 16 <| kl_nil fun u21 M => ZP32 M 0 p2 (va ((e9 v p0 p1 p2 p3) p2) ((e9 v p0 p1 p2 p3) p3)) fun u22 M => nT <| wp_seq <| rg_tail M 9 (by kernel_rfl) (by kernel_rfl) ?_
 simp only [List.take_succ_cons, List.take_zero]
 refine kR 2 <| eX 109 .i64 g1 (p1) 16 <| eE M 110 0 p1 <| kR 1 <| eX 112 .i64 g1 (p2) 16 <| eE M 113 0 p2 <| kR 1 <| eX 115 .i64 g1 (p1) 16 <| kl_nil fun u23 M => ZP32 M 0 p1 (vx ((e10 v p0 p1 p2 p3) p1) ((e10 v p0 p1 p2 p3) p2)) fun u24 M => nT <| wp_seq <| rg_tail M 11 (by kernel_rfl) (by kernel_rfl) ?_
 simp only [List.take_succ_cons, List.take_zero]
 refine kR 2 <| eX 118 .i64 g1 (p1) 16 <| eE M 119 0 p1 <| kR 2 <| eX 122 .i64 g1 (p1) 16 <| eE M 123 0 p1 <| kR 2 <| eX 126 .i64 g1 (p1) 16 <| kl_nil fun u25 M => ZP32 M 0 p1 (vo (vl ((e11 v p0 p1 p2 p3) p1) 7) (sr ((e11 v p0 p1 p2 p3) p1) 25)) fun u26 M => nT <| sR <| pA M 127 0 16 (w32 (e12 v p0 p1 p2 p3)) <| ZG M 1 16 (w32 (e12 v p0 p1 p2 p3)) fun u27 M => nT <| wp_ret ?_
 refine bodyPost_ret (v := .agg (av 16 (w32 (mxF v p0 p1 p2 p3)))) (Eq.trans (b := .ok (.agg (av 16 (w32 (e12 v p0 p1 p2 p3)))) _) (results_cell_row Tryz.results147 _ _ g2 148 (av 16 (w32 (e12 v p0 p1 p2 p3))) (0, 0) _ (by kernel_rfl) (M.get 1 rfl) Tryz.underlying148 rfl (by rw [av_size]; exact inz148)) (by rw [e12_eq v p0 p1 p2 p3 d0 d1 d2 d3 d4 d5])) (by kernel_rfl) ⟨rfl, below_grown M.old⟩
def nb (n : Int) : Nat → Int
 | 0 => cv .u8 n
 | 1 => cv .u8 (sr n 8)
 | 2 => cv .u8 (sr n 16)
 | 3 => cv .u8 (sr n 24)
 | _ => 0
theorem cv8_nn (x : Int) : 0 ≤ cv .u8 x ∧ cv .u8 x < 256 := by
 unfold cv
 simp [IntKind.wrap, IntKind.signed, IntKind.bits]
 omega
theorem nb_nn (n : Int) : ∀ x ∈ (List.range 4).map (nb n), 0 ≤ x ∧ x < 256 := fun x hx => by
 obtain ⟨i, hi, rfl⟩ := List.mem_map.1 hx
 have hi := List.mem_range.1 hi
 rcases i with _ | _ | _ | _ | i
 ·exact cv8_nn _
 ·exact cv8_nn _
 ·exact cv8_nn _
 ·exact cv8_nn _
 ·omega
def nB (n : Int) : ByteArray := bs ((List.range 4).map (nb n))
theorem nB_size (n : Int) : (nB n).size = 4 := by
 unfold nB
 rw [bs_size]
 rfl
def alS (key nonce : Yb) (n : Int) : ByteArray := strK ++ key ++ nB n ++ nonce
theorem strK_size : strK.size = 16 := rfl
theorem alS_size (key nonce : Yb) (n : Int) (hk : key.size = 32) (hn : nonce.size = 12) : (alS key nonce n).size = 64 := by
 unfold alS
 rw [ByteArray.size_append, ByteArray.size_append, ByteArray.size_append, nB_size, strK_size, hk, hn]
def dx (al : Yb) : Nat → (Nat → Int)
 | 0 => fun _ => 0
 | j + 1 => upd (dx al j) j (wd4 (al.extract (4 * j) (4 * j + 4)))
def dk (x : NI) : Nat → (Nat → Int)
 | 0 => fun _ => 0
 | j + 1 => upd (dk x j) j (cv .u8 (sr (va (x (j / 4)) (rd x 10 (j / 4))) (8 * (j % 4))))
def dbl (x : NI) (i : Nat) : Int := cv .u8 (sr (va (x (i / 4)) (rd x 10 (i / 4))) (8 * (i % 4)))
theorem dk_at (x : NI) : ∀ n, ∀ i, i < n → dk x n i = dbl x i
 | 0, i, h => absurd h (by omega)
 | n + 1, i, h => by
  unfold dk upd
  by_cases e : i = n
  ·rw [if_pos e, e]
   rfl
  ·rw [if_neg e, dk_at x n i (by omega)]
theorem dk_map (x : NI) : (List.range 64).map (dk x 64) = (List.range 64).map (dbl x) := List.map_congr_left fun i hi => dk_at x 64 i (List.mem_range.1 hi)
theorem dbl_nn (x : NI) : ∀ y ∈ (List.range 64).map (dbl x), 0 ≤ y ∧ y < 256 := fun y hy => by
 obtain ⟨i, _, rfl⟩ := List.mem_map.1 hy
 exact cv8_nn _
def dbk (key nonce : Yb) (n : Int) : ByteArray := bs ((List.range 64).map (dbl (dx (alS key nonce n) 16)))
theorem dbk_size (key nonce : Yb) (n : Int) : (dbk key nonce n).size = 64 := by
 unfold dbk
 rw [bs_size]
 simp
theorem d_Block (key nonce : Yb) (n : Int) (hk : key.size = 32) (hn : nonce.size = 12) (w : World) (hL : Laid w)  : Cs 108 #[.string key, .string nonce, .int .u32 n] w (.string (dbk key nonce n)) := by
 go_enter Tryz.func108, Tryz.ntmps108
 have M := Mem.start hL
 refine sq <| sR <| rV 1 <| pH 15 (.string (strK ++ key)) (run_cat 9 9 _ _ rfl strK key (by kernel_rfl) (by kernel_rfl) (by rw [strK_size, hk]; decide)) <| rV 11 <| ZM M 27 (fun g1 => .slice (some ⟨g1, 0, none⟩) 4 4) (.cells (av 4 (w8 (nb n))) 5) fun g1 u1 M => pl_back M (want_no rfl) (some 28) rfl _ rfl 0 g1 4 4 (by kernel_rfl) _ rfl ((List.range 4).map (nb n)) 4 (sb_av 4 _ _) (by simp) (nb_nn _) <| pH 29 (.string (strK ++ key ++ nB n)) (run_cat 9 9 _ _ rfl (strK ++ key) (nB n) (by kernel_rfl) (by kernel_rfl) (by rw [ByteArray.size_append, strK_size, hk, nB_size]; decide)) <| rV 1 <| pH 31 (.string (alS key nonce n)) (run_cat 9 9 _ _ rfl (strK ++ key ++ nB n) nonce (by kernel_rfl) (by kernel_rfl) (by rw [ByteArray.size_append, ByteArray.size_append, strK_size, hk, nB_size, hn]; decide)) <| rV 1 <| nT <| sR <| pN M 8 (.cells (av 16 (w32 (fun _ => 0))) 148) fun g2 u2 M => nT <| wp_seq ?_
 refine sq <| wp_block ?_
 refine au_loop (fun j a w' => ∃ v1 : NV, a = (fm ([.string key, .string nonce, .int .u32 n] ++ vr v1 3 3 ++ [.string ⟨#[]⟩, .string (alS key nonce n), pJ g2, .int .i64 (j : Int)] ++ vr v1 10 82)) ∧ Mem ⟨w, []⟩ [⟨g1, .cells (av 4 (w8 (nb n))) 5⟩, ⟨g2, .cells (av 16 (w32 (dx (alS key nonce n) j))) 148⟩] w') 16 (exS M) ?_ ?_
 ·intro j a u0 hj hI
  obtain ⟨v1, rfl, M⟩ := hI
  refine wp_seq <| sR <| rV 1 <| ZT 33 ((j : Int) < 16) <| nT <| cT <| wp_skip <| au_then <| wp_seq <| wp_block <| rg_lit <| rV 3 <| ZI 39 (4 * (j : Int)) ((4 * j : Nat) : Int) <| rV 1 <| ZI 41 (4 * (j : Int)) ((4 * j : Nat) : Int) <| ZI 42 (((4 * j : Nat) : Int) + 4) ((4 * j + 4 : Nat) : Int) ?_
  refine pH 43 (.string ((alS key nonce n).extract (4 * j) (4 * j + 4))) (run_strlh 9 Tryz.underlying9 _ _ _ rfl (alS key nonce n) (by kernel_rfl) .i64 .i64 (4 * j) (4 * j + 4) (by kernel_rfl) (by kernel_rfl) (by omega) (by rw [alS_size key nonce n hk hn]; omega)) <| pC M 44 146 #[.string ((alS key nonce n).extract (4 * j) (4 * j + 4))] (.int .u32 (wd4 ((alS key nonce n).extract (4 * j) (4 * j + 4)))) (fun w M => d_word _ (by rw [ByteArray.size_extract, alS_size key nonce n hk hn]; omega) w M.laid) fun u3 M => ZX 45 .i64 g2 (j) 16 <| ZP32 M 1 j (wd4 ((alS key nonce n).extract (4 * j) (4 * j + 4))) fun u4 M => pl_nil <| au_block <| au_then <| rg_lit <| rV 1 <| ZI 35 ((j : Int) + 1) ((j + 1 : Nat) : Int) <| rV 1 <| nT ?_
  exact exS M
 ·intro a u0 hI
  obtain ⟨v1, rfl, M⟩ := hI
  refine wp_seq <| sR <| rV 1 <| ZF 33 (16 < 16) <| nT <| cF <| wp_exit <| au_then_exit <| au_then_exit <| au_block_exit <| au_then <| sR <| pA M 46 1 16 (w32 (dx (alS key nonce n) 16)) <| pN M 10 (.cells (av 16 (w32 (fun _ => 0))) 148) fun g3 u5 M => ZG M 2 16 (w32 (dx (alS key nonce n) 16)) fun u6 M => nT ?_
  refine wp_seq <| sq <| wp_block ?_
  refine au_loop (fun j a w' => ∃ v2 : NV, a = (fm ([.string key, .string nonce, .int .u32 n] ++ vr v2 3 3 ++ [.string ⟨#[]⟩, .string (alS key nonce n), pJ g2, .int .i64 (16 : Int), pJ g3, .int .i64 (j : Int)] ++ vr v2 12 80)) ∧ Mem ⟨w, []⟩ [⟨g1, .cells (av 4 (w8 (nb n))) 5⟩, ⟨g2, .cells (av 16 (w32 (dx (alS key nonce n) 16))) 148⟩, ⟨g3, .cells (av 16 (w32 (rd (dx (alS key nonce n) 16) j))) 148⟩] w') 10 (exS M) ?_ ?_
  ·intro j a u0 hj hI
   obtain ⟨v2, rfl, M⟩ := hI
   refine wp_seq <| sR <| rV 1 <| ZT 48 ((j : Int) < 10) <| nT <| cT <| wp_skip <| au_then <| wp_seq <| wp_block <| sR <| pA M 51 2 16 (w32 (rd (dx (alS key nonce n) 16) j)) <| ZC M 52 (fun w M => d_quarter (rd (dx (alS key nonce n) 16) j) 0 4 8 12 (by decide) (by decide) (by decide) (by decide) (by decide) (by decide) (by decide) (by decide) (by decide) (by decide) w M.laid) fun u7 M => ZG M 2 16 (w32 (rn1 (rd (dx (alS key nonce n) 16) j))) fun u8 M => nT <| sR ?_
   refine pA M 53 2 16 (w32 (rn1 (rd (dx (alS key nonce n) 16) j))) <| ZC M 54 (fun w M => d_quarter (rn1 (rd (dx (alS key nonce n) 16) j)) 1 5 9 13 (by decide) (by decide) (by decide) (by decide) (by decide) (by decide) (by decide) (by decide) (by decide) (by decide) w M.laid) fun u9 M => ZG M 2 16 (w32 (rn2 (rd (dx (alS key nonce n) 16) j))) fun u10 M => nT <| sR <| pA M 55 2 16 (w32 (rn2 (rd (dx (alS key nonce n) 16) j))) <| ZC M 56 (fun w M => d_quarter (rn2 (rd (dx (alS key nonce n) 16) j)) 2 6 10 14 (by decide) (by decide) (by decide) (by decide) (by decide) (by decide) (by decide) (by decide) (by decide) (by decide) w M.laid) fun u11 M => ZG M 2 16 (w32 (rn3 (rd (dx (alS key nonce n) 16) j))) fun u12 M => nT <| sR <| pA M 57 2 16 (w32 (rn3 (rd (dx (alS key nonce n) 16) j))) <| ZC M 58 (fun w M => d_quarter (rn3 (rd (dx (alS key nonce n) 16) j)) 3 7 11 15 (by decide) (by decide) (by decide) (by decide) (by decide) (by decide) (by decide) (by decide) (by decide) (by decide) w M.laid) fun u13 M => ZG M 2 16 (w32 (rn4 (rd (dx (alS key nonce n) 16) j))) fun u14 M => nT <| sR <| pA M 59 2 16 (w32 (rn4 (rd (dx (alS key nonce n) 16) j))) ?_
   refine ZC M 60 (fun w M => d_quarter (rn4 (rd (dx (alS key nonce n) 16) j)) 0 5 10 15 (by decide) (by decide) (by decide) (by decide) (by decide) (by decide) (by decide) (by decide) (by decide) (by decide) w M.laid) fun u15 M => ZG M 2 16 (w32 (rn5 (rd (dx (alS key nonce n) 16) j))) fun u16 M => nT <| sR <| pA M 61 2 16 (w32 (rn5 (rd (dx (alS key nonce n) 16) j))) <| ZC M 62 (fun w M => d_quarter (rn5 (rd (dx (alS key nonce n) 16) j)) 1 6 11 12 (by decide) (by decide) (by decide) (by decide) (by decide) (by decide) (by decide) (by decide) (by decide) (by decide) w M.laid) fun u17 M => ZG M 2 16 (w32 (rn6 (rd (dx (alS key nonce n) 16) j))) fun u18 M => nT <| sR <| pA M 63 2 16 (w32 (rn6 (rd (dx (alS key nonce n) 16) j))) <| ZC M 64 (fun w M => d_quarter (rn6 (rd (dx (alS key nonce n) 16) j)) 2 7 8 13 (by decide) (by decide) (by decide) (by decide) (by decide) (by decide) (by decide) (by decide) (by decide) (by decide) w M.laid) fun u19 M => ZG M 2 16 (w32 (rn7 (rd (dx (alS key nonce n) 16) j))) fun u20 M => nT <| rg_lit <| pA M 65 2 16 (w32 (rn7 (rd (dx (alS key nonce n) 16) j))) <| ZC M 66 (fun w M => d_quarter (rn7 (rd (dx (alS key nonce n) 16) j)) 3 4 9 14 (by decide) (by decide) (by decide) (by decide) (by decide) (by decide) (by decide) (by decide) (by decide) (by decide) w M.laid) fun u21 M => ?_
   refine ZG M 2 16 (w32 (rn8 (rd (dx (alS key nonce n) 16) j))) fun u22 M => pl_nil <| au_block <| au_then <| rg_lit <| rV 1 <| ZI 50 ((j : Int) + 1) ((j + 1 : Nat) : Int) <| rV 1 <| nT ?_
   exact exS M
  ·intro a u0 hI
   obtain ⟨v2, rfl, M⟩ := hI
   refine wp_seq <| sR <| rV 1 <| ZF 48 (10 < 10) <| nT <| cF <| wp_exit <| au_then_exit <| au_then_exit <| au_block_exit <| au_then <| sR <| ZM M 67 (fun g4 => .slice (some ⟨g4, 0, none⟩) 64 64) (.cells (av 64 (w8 (dk (dx (alS key nonce n) 16) 0))) 5) fun g4 u23 M => rV 1 <| nT <| wp_seq ?_
   refine sq <| wp_block ?_
   refine au_loop (fun j a w' => ∃ v3 : NV, a = (fm ([.string key, .string nonce, .int .u32 n] ++ vr v3 3 3 ++ [.string ⟨#[]⟩, .string (alS key nonce n), pJ g2, .int .i64 (16 : Int), pJ g3, .int .i64 (10 : Int), .slice (some ⟨g4, 0, none⟩) 64 64, .int .i64 (j : Int)] ++ vr v3 14 78)) ∧ Mem ⟨w, []⟩ [⟨g1, .cells (av 4 (w8 (nb n))) 5⟩, ⟨g2, .cells (av 16 (w32 (dx (alS key nonce n) 16))) 148⟩, ⟨g3, .cells (av 16 (w32 (rd (dx (alS key nonce n) 16) 10))) 148⟩, ⟨g4, .cells (av 64 (w8 (dk (dx (alS key nonce n) 16) j))) 5⟩] w') 64 (exS M) ?_ ?_
   ·intro j a u0 hj hI
    obtain ⟨v3, rfl, M⟩ := hI
    refine wp_seq <| sR <| rV 1 <| ZT 69 ((j : Int) < 64) <| nT <| cT <| wp_skip <| au_then <| wp_seq <| wp_block <| rg_tail M 18 (by kernel_rfl) (by kernel_rfl) ?_
    simp only [List.take_succ_cons, List.take_zero]
    refine kR 3 <| eQ 75 .i64 (IntKind.wrap .i64 ((j : Int).tdiv 4)) (quo4 j (by omega)) <| eX 76 .i64 g2 ((j / 4 : Nat)) 16 <| eE M 77 1 ((j / 4 : Nat)) <| kR 1 <| eQ 79 .i64 (IntKind.wrap .i64 ((j : Int).tdiv 4)) (quo4 j (by omega)) <| eX 80 .i64 g3 ((j / 4 : Nat)) 16 <| eE M 81 2 ((j / 4 : Nat)) <| kR 2 <| eQ 84 .i64 (Int.tmod (j : Int) 4) (rem4 j) <| eI 85 (8 * ((j % 4 : Nat) : Int)) ((8 * (j % 4) : Nat) : Int) <| eQ 86 .u64 (cv .u64 ((8 * (j % 4) : Nat) : Int)) (cvu64 _ (by omega)) <| kH 87 (.int .u32 (sr (va ((dx (alS key nonce n) 16) (j / 4)) (rd (dx (alS key nonce n) 16) 10 (j / 4))) (8 * (j % 4)))) (run_shrV 91 92 _ _ rfl _ .u64 (8 * (j % 4)) (by kernel_rfl) (by kernel_rfl) (by omega)) <| kR 1 <| kH 89 (pJ g4 j) (run_ix0 61 5 Tryz.underlying61 inz5 _ _ rfl g4 64 64 (by kernel_rfl) .i64 j (by kernel_rfl) hj) <| kl_nil fun u24 M => ?_
    refine ZP8 M 3 j (cv .u8 (sr (va ((dx (alS key nonce n) 16) (j / 4)) (rd (dx (alS key nonce n) 16) 10 (j / 4))) (8 * (j % 4)))) fun u25 M => pl_nil <| au_block <| au_then <| rg_lit <| rV 1 <| ZI 71 ((j : Int) + 1) ((j + 1 : Nat) : Int) <| rV 1 <| nT ?_
    exact exS M
   ·intro a u0 hI
    obtain ⟨v3, rfl, M⟩ := hI
    refine wp_seq <| sR <| rV 1 <| ZF 69 (64 < 64) <| nT <| cF <| wp_exit <| au_then_exit <| au_then_exit <| au_block_exit <| au_then <| sR <| rV 1 <| pl_back M (want_no rfl) (some 91) rfl _ rfl 3 g4 64 64 (by kernel_rfl) _ rfl ((List.range 64).map (dk (dx (alS key nonce n) 16) 64)) 64 (sb_av 64 _ _) (by simp) (by rw [dk_map]; exact dbl_nn _) ?_
    rw [dk_map]
    refine rV 1 <| nT <| wp_ret ?_
    exact b1 M
end Go.Proofs.YtffimigpbcilbaaGreatDoor
