/- Lemmas of single operations, of words and of bytes. -/
import Derived.Test.YtenafinbaanicaaDoorSq
import Derived.Shelf.Strings.Builder2
namespace Go.Proofs.YtenafinbaanicaaDoor
open Go.RowKit

theorem inz46 : (Tryd.prog.info? 46).map (·.size) = some 1 := by kernel_rfl
theorem inz5 : (Tryd.prog.info? 5).map (·.size) = some 1 := by kernel_rfl
theorem inz101 : (Tryd.prog.info? 101).map (·.size) = some 16 := by kernel_rfl
theorem inz100 : (Tryd.prog.info? 100).map (·.size) = some 16 := by kernel_rfl
theorem inz114 : (Tryd.prog.info? 114).map (·.size) = some 64 := by kernel_rfl
theorem inz150 : (Tryd.prog.info? 150).map (·.size) = some 2 := by kernel_rfl
theorem inz151 : (Tryd.prog.info? 151).map (·.size) = some 4 := by kernel_rfl
theorem inz3 : (Tryd.prog.info? 3).map (·.size) = some 1 := by kernel_rfl
theorem inz4 : (Tryd.prog.info? 4).map (·.size) = some 1 := by kernel_rfl
theorem inz9 : (Tryd.prog.info? 9).map (·.size) = some 1 := by kernel_rfl
theorem inz29 : (Tryd.prog.info? 29).map (·.size) = some 1 := by kernel_rfl
theorem inz22 : (Tryd.prog.info? 22).map (·.size) = some 1 := by kernel_rfl
theorem inz145 : (Tryd.prog.info? 145).map (·.size) = some 1 := by kernel_rfl
theorem inz26 : (Tryd.prog.info? 26).map (·.size) = some 1 := by kernel_rfl
theorem inz109 : (Tryd.prog.info? 109).map (·.size) = some 2 := by kernel_rfl
theorem Mem.oldc {c : Ctx} {L : List Blk} {W : World} (M : Mem c L W) {g k : Nat} {v : Value} (hc : c.w.cell? ⟨g, k, none⟩ = some v) (hr : g ∉ c.r) : W.cell? ⟨g, k, none⟩ = some v := by
  have hlt : g < c.w.heap.size := by
    refine Classical.byContradiction fun hn => ?_
    have : c.w.heap[g]? = none := Array.getElem?_eq_none (by omega)
    simp [World.cell?, this] at hc
  rw [← hc]
  unfold World.cell?
  simp only
  rw [M.old.block g hlt hr]
theorem wrap64 {x : Int} (h0 : -9223372036854775808 ≤ x) (h1 : x < 9223372036854775808) : IntKind.wrap .i64 x = x := by
  simp [IntKind.wrap, IntKind.signed, IntKind.bits, go_sem]
  omega
theorem quo4 (j : Nat) (hj : j < 1000000) : IntKind.wrap .i64 ((j : Int).tdiv 4) = ((j / 4 : Nat) : Int) := by
  rw [Int.tdiv_eq_ediv_of_nonneg (by omega), wrap64 (by omega) (by omega)]
  omega
theorem rem4 (n : Nat) : Int.tmod (n : Int) 4 = ((n % 4 : Nat) : Int) := by
  rw [Int.tmod_eq_emod_of_nonneg (by omega)]
  omega
theorem rem8 (n : Nat) : Int.tmod (n : Int) 8 = ((n % 8 : Nat) : Int) := by
  rw [Int.tmod_eq_emod_of_nonneg (by omega)]
  omega
theorem run_shlV {P : Program} {a : Act} {o : Oper} (t rt : TypeId) (x y : Operand) (ho : o.op = .binOp .shl t x y rt) (k : Int) (ky : IntKind) (m : Nat) (hx : a.eval x = .int .u32 k) (hy : a.eval y = .int ky (m : Int)) (_hm : m ≤ 32) (w : World) :
    (execOp a.eval o).run P w = .ok (.value (.int .u32 (vl k m))) w := by
  unfold execOp vl
  simp [ho, hx, hy, eqGuard, binOp]
/-- A row of arrays: the whole of one of them. -/
theorem run_ixP {P : Program} {a : Act} {o : Oper} (t : TypeId) (len : Nat) (elem : TypeId) (sz : Nat) (hu : P.underlying t = some (.array len elem)) (hs : (P.info? elem).map (·.size) = some sz) (hag : ∀ w, (isAgg elem).run P w = .ok true w) (x ix : Operand) (ho : o.op = .index t x ix) (F : Nat → Value) (n : Nat) (hx : a.eval x = .agg (av n F)) (k : IntKind) (i : Nat) (hi : a.eval ix = .int k (i : Int)) (hlt : i < len) (hn : i * sz + sz ≤ n) (w : World) :
    (execOp a.eval o).run P w = .ok (.value (.agg (av sz (fun j => F (i * sz + j))))) w := by
  have he : (av n F).extract (i * sz) (i * sz + sz) = av sz (fun j => F (i * sz + j)) := by
    apply Array.ext_getElem?
    intro j
    rw [Array.getElem?_extract]
    by_cases hj : j < sz
    · rw [if_pos (by rw [av_size]; omega), av_get _ _ _ (by omega), av_get _ _ _ hj]
    · rw [if_neg (by rw [av_size]; omega), Array.getElem?_eq_none (by rw [av_size]; omega)]
  cases hq : P.info? elem with
  | none => simp [hq] at hs
  | some u =>
    have hsz : u.size = sz := by simpa [hq] using hs
    unfold execOp
    simp [ho, hx, hi, Instr.index, asIntOf, run_underlying hu, sizeOf, typeInfo, hq, hsz, hlt, part, hag, he]
/-- The package's variable is loaded. -/
theorem pl_laid {P : Program} {ops : Array Oper} {rest : List Oper} {o : Oper} {a : Act} {w : World} {c : Ctx} {L : List Blk} {Q : Exit → Act → World → Prop} (M : Mem c L w) (hw : Region.wanted o (yielded ops a.tmps) = true) (d : Option Tmp) (hd : o.dst = d) (ty : TypeId) (x : Operand) (ho : o.op = .load ty x) (hx : a.eval x = .pointer (some ⟨1, 0, none⟩)) (t : TypeDesc) (hu : P.underlying ty = some t) (ht : t.isRow = true) (hz : (P.info? ty).map (·.size) = some 4)
    (h : PL P ops Q rest (a.put d (.agg (av 4 (wi TF)))) w) : PL P ops Q (o :: rest) a w := by
  refine pl_to hw d hd _ w ?_ h
  unfold execOp
  have hl := run_loadAt_mid (P := P) w 1 0 ty (av 4 (wi TF)).toList t (fun j v hv => by
    obtain ⟨hj, rfl⟩ := av_toList_get _ _ _ _ hv
    rw [Nat.zero_add]
    exact M.laid.t j hj) hu ht (by rw [hz]; simp [av_size])
  simp only [ho, hx, Sem.run_bind, hl, Result.andThen_ok, Sem.run_pure, Array.toArray_toList]
theorem run_ixL {P : Program} {a : Act} {o : Oper} (t elem : TypeId) (hu : P.underlying t = some (.slice elem)) (hs : (P.info? elem).map (·.size) = some 1) (x ix : Operand) (ho : o.op = .indexAddr t x ix) (g off len cap : Nat) (hx : a.eval x = .slice (some ⟨g, off, none⟩) len cap) (k : IntKind) (i : Nat) (hi : a.eval ix = .int k (i : Int)) (hlt : i < len) (w : World) :
    (execOp a.eval o).run P w = .ok (.value (.pointer (some ⟨g, off + i, none⟩))) w := by
  cases hq : P.info? elem with
  | none => simp [hq] at hs
  | some u =>
    have hsz : u.size = 1 := by simpa [hq] using hs
    unfold execOp
    simp [ho, hx, hi, Instr.indexAt, asIntOf, run_underlying hu, sizeOf, typeInfo, hq, hsz, add_at, hlt]
theorem quo64 (j : Nat) (hj : j < 1000000) : IntKind.wrap .i64 ((j : Int).tdiv 64) = ((j / 64 : Nat) : Int) := by
  rw [Int.tdiv_eq_ediv_of_nonneg (by omega), wrap64 (by omega) (by omega)]
  omega
theorem rem64 (n : Nat) : Int.tmod (n : Int) 64 = ((n % 64 : Nat) : Int) := by
  rw [Int.tmod_eq_emod_of_nonneg (by omega)]
  omega
theorem run_strl {P : Program} {a : Act} {o : Oper} (t : TypeId) (hu : P.underlying t = some .string) (x lo : Operand) (ho : o.op = .slice t x (some lo) none none) (s : ByteArray) (hx : a.eval x = .string s) (k : IntKind) (i : Nat) (hi : a.eval lo = .int k (i : Int)) (hle : i ≤ s.size) (v : ByteArray) (hv : s.extract i s.size = v) (w : World) :
    (execOp a.eval o).run P w = .ok (.value (.string v)) w := by
  subst hv
  unfold execOp
  simp [ho, hx, hi, run_sliceAt_string w t (.string s) (some (.int k i)) none none hu, run_slice_string_l w t s hu k i (by omega) (by omega)]
theorem run_strh {P : Program} {a : Act} {o : Oper} (t : TypeId) (hu : P.underlying t = some .string) (x hi : Operand) (ho : o.op = .slice t x none (some hi) none) (s : ByteArray) (hx : a.eval x = .string s) (k : IntKind) (i : Nat) (hh : a.eval hi = .int k (i : Int)) (hle : i ≤ s.size) (v : ByteArray) (hv : s.extract 0 i = v) (w : World) :
    (execOp a.eval o).run P w = .ok (.value (.string v)) w := by
  subst hv
  unfold execOp
  simp [ho, hx, hh, run_sliceAt_string w t (.string s) none (some (.int k i)) none hu, run_slice_string_h w t s hu k i (by omega) (by omega)]
theorem run_cat {P : Program} {a : Act} {o : Oper} (t rt : TypeId) (x y : Operand) (ho : o.op = .binOp .add t x y rt) (s u : ByteArray) (hx : a.eval x = .string s) (hy : a.eval y = .string u) (hb : s.size + u.size ≤ 9223372036854775807) (w : World) :
    (execOp a.eval o).run P w = .ok (.value (.string (s ++ u))) w := by
  have h := run_string_add_sum (P := P) (w := w) s u hb
  unfold execOp
  simp [ho, hx, hy, eqGuard, binOp, h]
theorem vo_comm (x y : Int) : vo x y = vo y x := by
  unfold vo
  rw [BitVec.or_comm]
theorem va_eq (x y : Int) : va x y = (x + y) % 4294967296 := by
  unfold va
  simp [IntKind.wrap, IntKind.signed, IntKind.bits]
theorem wrap32_nat (n : Nat) (h : n < 4294967296) : IntKind.wrap .u32 (n : Int) = (n : Int) := by
  simp [IntKind.wrap, IntKind.signed, IntKind.bits]
  omega
theorem ofInt_nat (b : BitVec 32) : BitVec.ofInt 32 (b.toNat : Int) = b := by
  apply BitVec.eq_of_toNat_eq
  rw [BitVec.toNat_ofInt]
  have := b.isLt
  omega
theorem vx_assoc (x y z : Int) : vx (vx x y) z = vx x (vx y z) := by
  have key : ∀ b : BitVec 32, IntKind.wrap .u32 (b.toNat : Int) = (b.toNat : Int) := fun b => wrap32_nat _ b.isLt
  unfold vx
  simp only [key, ofInt_nat, BitVec.xor_assoc]
theorem run_ixS {P : Program} {a : Act} {o : Oper} (t : TypeId) (hu : P.underlying t = some .string) (x ix : Operand) (ho : o.op = .index t x ix) (s : ByteArray) (hx : a.eval x = .string s) (k : IntKind) (i : Nat) (hi : a.eval ix = .int k (i : Int)) (hlt : i < s.size) (w : World) :
    (execOp a.eval o).run P w = .ok (.value (.int .u8 (bt s i))) w := by
  have e : s[i]? = some s[i] := ByteArray.getElem?_lt' s i hlt
  have e2 : bt s i = (s[i].toNat : Int) := by
    unfold bt
    rw [Array.getElem?_eq_getElem hlt]
    rfl
  unfold execOp
  simp [ho, hx, hi, Instr.index, asIntOf, run_underlying hu, e, e2]
theorem run_shrV {P : Program} {a : Act} {o : Oper} (t rt : TypeId) (x y : Operand) (ho : o.op = .binOp .shr t x y rt) (k : Int) (ky : IntKind) (m : Nat) (hx : a.eval x = .int .u32 k) (hy : a.eval y = .int ky (m : Int)) (_hm : m ≤ 32) (w : World) :
    (execOp a.eval o).run P w = .ok (.value (.int .u32 (sr k m))) w := by
  have hp : (0 : Int) ≤ 2 ^ m := Int.le_of_lt (Int.pow_pos (by decide))
  unfold execOp sr
  rw [Int.fdiv_eq_ediv_of_nonneg k hp]
  simp [ho, hx, hy, eqGuard, binOp]
theorem run_strlh {P : Program} {a : Act} {o : Oper} (t : TypeId) (hu : P.underlying t = some .string) (x lo hi : Operand) (ho : o.op = .slice t x (some lo) (some hi) none) (s : ByteArray) (hx : a.eval x = .string s) (k k' : IntKind) (i j : Nat) (hl : a.eval lo = .int k (i : Int)) (hh : a.eval hi = .int k' (j : Int)) (hij : i ≤ j) (hle : j ≤ s.size) (w : World) :
    (execOp a.eval o).run P w = .ok (.value (.string (s.extract i j))) w := by
  unfold execOp
  simp [ho, hx, hl, hh, run_sliceAt_string w t (.string s) (some (.int k i)) (some (.int k' j)) none hu, run_slice_string w t s k k' i j hu (by omega) (by omega) (by omega)]
/-- Exclusive or, of bytes. -/
def xb (x y : Int) : Int := IntKind.wrap .u8 (BitVec.ofInt 8 x ^^^ BitVec.ofInt 8 y).toNat
theorem sb_av (n : Nat) (F : Nat → Int) (T : TypeId) : SB (.cells (av n (w8 F)) T) n (vs8 ((List.range n).map F)) := ⟨_, T, (0, 0), rfl, by simp [vs8], by rw [av_size]; exact Nat.le_refl _, fun i hi => by
  simp [vs8] at hi
  simp [vs8, av, w8, hi], fun i _ => by simp⟩
theorem run_ix0 {P : Program} {a : Act} {o : Oper} (t elem : TypeId) (hu : P.underlying t = some (.slice elem)) (hs : (P.info? elem).map (·.size) = some 1) (x ix : Operand) (ho : o.op = .indexAddr t x ix) (g len cap : Nat) (hx : a.eval x = .slice (some ⟨g, 0, none⟩) len cap) (k : IntKind) (i : Nat) (hi : a.eval ix = .int k (i : Int)) (hlt : i < len) (w : World) :
    (execOp a.eval o).run P w = .ok (.value (.pointer (some ⟨g, i, none⟩))) w := by
  have h := run_ixL (P := P) t elem hu hs x ix ho g 0 len cap hx k i hi hlt w
  rwa [Nat.zero_add] at h
theorem xb_nn (x y : Int) : 0 ≤ xb x y ∧ xb x y < 256 := by
  unfold xb
  simp [IntKind.wrap, IntKind.signed, IntKind.bits]
  omega
open Go.Shelf
/-- A builder that is new. -/
def bF0 : Nat → Value := fun i => if i = 0 then .pointer none else .slice none 0 0
section
variable {P : Program} {ops : Array Oper} {rest : List Oper} {o : Oper} {a : Act} {w : World} {c : Ctx} {L : List Blk} {Q : Exit → Act → World → Prop} {K : Act → World → Prop} {J : Act → World → Prop}
theorem pl_newB (M : Mem c L w) (hw : Region.wanted o (yielded ops a.tmps) = true) (d : Option Tmp) (hd : o.dst = d) (Z : Obj) (hrun : ∀ w, (execOp a.eval o).run P w = .ok (.value (.pointer (some ⟨w.heap.size, 0, none⟩))) (w.alloc Z))
    (h : ∀ g w', (∀ b ∈ L, b.g < g) → Mem c (L ++ [⟨g, Z⟩]) w' → PL P ops Q rest (a.put d (.pointer (some ⟨g, 0, none⟩))) w') : PL P ops Q (o :: rest) a w :=
  pl_to hw d hd _ _ (hrun w) (h w.heap.size _ (fun _ hb => M.lt hb) (M.new _ _ (new_below w _) (heap_alloc_new w _) (Nat.le_refl _)))
theorem pl_callr (hw : Region.wanted o (yielded ops a.tmps) = true) (d : Option Tmp) (hd : o.dst = d) (f : FuncId) (args : Array Value) (v : Value) (R : World → Prop) (hrun : ∀ w, (execOp a.eval o).run P w = .ok (.enter f args) w)
    (hc : Calls P f args w fun e w' => e = .returned v ∧ R w') (h : ∀ w', R w' → PL P ops Q rest (a.put d v) w') : PL P ops Q (o :: rest) a w :=
  pl_callq hw d hd f args hrun (hc.mono fun _ w' ⟨he, hr⟩ => ⟨v, he, h w' hr⟩)
end
theorem owns_keep {w w' : World} {B : Nat} {e : TypeId} {v : Value} {n : Nat} {xs : List Value} (h : w.ownsRow B e 1 v n xs) (hb : Below w.heap.size w w') : w'.ownsRow B e 1 v n xs := by
  obtain ⟨h1, h2⟩ := h
  refine ⟨h1, ?_⟩
  rcases h2 with h2 | ⟨g, cap, cur, h3, h4, h5, h6⟩
  · exact .inl h2
  · exact .inr ⟨g, cap, cur, h3, h4, by rw [hb.block g (Array.getElem?_eq_some_iff.1 h5).1]; exact h5, h6⟩
theorem bat_keep {w w' : World} {T e : TypeId} {B b : Nat} {p : Value} {xs : List Value} (h : Lib.BuilderAt T e B b p xs w) (hb : Below w.heap.size w w') : Lib.BuilderAt T e B b p xs w' := by
  obtain ⟨h1, v, h2, h3, h4⟩ := h
  exact ⟨h1, v, by rw [hb.block b (Array.getElem?_eq_some_iff.1 h2).1]; exact h2, owns_keep h3 hb, h4⟩
theorem isb_keep {w w' : World} {T e : TypeId} {B b : Nat} {xs : List Value} (h : Lib.IsBuilder T e B b xs w) (hb : Below w.heap.size w w') : Lib.IsBuilder T e B b xs w' := h.imp (bat_keep · hb) (bat_keep · hb)
theorem isb_lt {w : World} {T e : TypeId} {B b : Nat} {xs : List Value} (h : Lib.IsBuilder T e B b xs w) : b < w.heap.size := h.elim Lib.BuilderAt.lt Lib.BuilderAt.lt
theorem same1 {w w' : World} {g : Nat} {Z : Obj} (h : Grw w w' [g]) (h1 : w.heap[g]? = some Z) (h2 : w'.heap[g]? = some Z) : Below w.heap.size w w' := ⟨h.os, h.tape, h.output, h.size, fun j hj => by
  by_cases e : j = g
  · subst e
    rw [h1, h2]
  · exact h.block j hj (by simp [e])⟩
theorem below_laid {w u : World} (h : Below w.heap.size w u) (hL : Laid w) : Laid u := hL.of fun k hk => h.block k (Nat.lt_of_lt_of_le hk hL.lt)

end Go.Proofs.YtenafinbaanicaaDoor
