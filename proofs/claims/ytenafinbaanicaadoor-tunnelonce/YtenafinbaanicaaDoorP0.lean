/- Lemmas of single operations, of words and of bytes. -/
import Derived.Test.YtenafinbaanicaaDoorC0
namespace Go.Proofs.YtenafinbaanicaaDoor.Pol
open Go.RowKit

theorem inz22 : (Tryd.prog.info? 22).map (·.size) = some 1 := by kernel_rfl
theorem inz5 : (Tryd.prog.info? 5).map (·.size) = some 1 := by kernel_rfl
theorem inz122 : (Tryd.prog.info? 122).map (·.size) = some 5 := by kernel_rfl
theorem inz121 : (Tryd.prog.info? 121).map (·.size) = some 5 := by kernel_rfl
theorem inz137 : (Tryd.prog.info? 137).map (·.size) = some 17 := by kernel_rfl
theorem inz140 : (Tryd.prog.info? 140).map (·.size) = some 9 := by kernel_rfl
theorem inz143 : (Tryd.prog.info? 143).map (·.size) = some 6 := by kernel_rfl
theorem inz144 : (Tryd.prog.info? 144).map (·.size) = some 16 := by kernel_rfl
theorem inz3 : (Tryd.prog.info? 3).map (·.size) = some 1 := by kernel_rfl
theorem inz4 : (Tryd.prog.info? 4).map (·.size) = some 1 := by kernel_rfl
theorem inz9 : (Tryd.prog.info? 9).map (·.size) = some 1 := by kernel_rfl
theorem inz29 : (Tryd.prog.info? 29).map (·.size) = some 1 := by kernel_rfl
theorem inz26 : (Tryd.prog.info? 26).map (·.size) = some 1 := by kernel_rfl
theorem wrap64 {x : Int} (h0 : -9223372036854775808 ≤ x) (h1 : x < 9223372036854775808) : IntKind.wrap .i64 x = x := by
  simp [IntKind.wrap, IntKind.signed, IntKind.bits, go_sem]
  omega
theorem run_ixL {P : Program} {a : Act} {o : Oper} (t elem : TypeId) (hu : P.underlying t = some (.slice elem)) (hs : (P.info? elem).map (·.size) = some 1) (x ix : Operand) (ho : o.op = .indexAddr t x ix) (g off len cap : Nat) (hx : a.eval x = .slice (some ⟨g, off, none⟩) len cap) (k : IntKind) (i : Nat) (hi : a.eval ix = .int k (i : Int)) (hlt : i < len) (w : World) :
    (execOp a.eval o).run P w = .ok (.value (.pointer (some ⟨g, off + i, none⟩))) w := by
  cases hq : P.info? elem with
  | none => simp [hq] at hs
  | some u =>
    have hsz : u.size = 1 := by simpa [hq] using hs
    unfold execOp
    simp [ho, hx, hi, Instr.indexAt, asIntOf, run_underlying hu, sizeOf, typeInfo, hq, hsz, add_at, hlt]
theorem run_strl {P : Program} {a : Act} {o : Oper} (t : TypeId) (hu : P.underlying t = some .string) (x lo : Operand) (ho : o.op = .slice t x (some lo) none none) (s : ByteArray) (hx : a.eval x = .string s) (k : IntKind) (i : Nat) (hi : a.eval lo = .int k (i : Int)) (hle : i ≤ s.size) (v : ByteArray) (hv : s.extract i s.size = v) (w : World) :
    (execOp a.eval o).run P w = .ok (.value (.string v)) w := by
  subst hv
  unfold execOp
  simp [ho, hx, hi, run_sliceAt_string w t (.string s) (some (.int k i)) none none hu, run_slice_string_l w t s hu k i (by omega) (by omega)]
theorem run_strh {P : Program} {a : Act} {o : Oper} (t : TypeId) (hu : P.underlying t = some .string) (x hi : Operand) (ho : o.op = .slice t x none (some hi) none) (s : ByteArray) (hx : a.eval x = .string s) (k : IntKind) (i : Nat) (hh : a.eval hi = .int k (i : Int)) (hle : i ≤ s.size) (v : ByteArray) (hv : s.extract 0 i = v) (w : World) :
    (execOp a.eval o).run P w = .ok (.value (.string v)) w := by
  subst hv
  unfold execOp
  simp [ho, hx, hh, run_sliceAt_string w t (.string s) none (some (.int k i)) none hu, run_slice_string_h w t s hu k i (by omega) (by omega)]
theorem run_cat {P : Program} {a : Act} {o : Oper} (t rt : TypeId) (x y : Operand) (ho : o.op = .binOp .add t x y rt) (s u : ByteArray) (hx : a.eval x = .string s) (hy : a.eval y = .string u) (hb : s.size + u.size ≤ 9223372036854775807) (w : World) :
    (execOp a.eval o).run P w = .ok (.value (.string (s ++ u))) w := by
  have h := run_string_add_sum (P := P) (w := w) s u hb
  unfold execOp
  simp [ho, hx, hy, eqGuard, binOp, h]
theorem run_ixS {P : Program} {a : Act} {o : Oper} (t : TypeId) (hu : P.underlying t = some .string) (x ix : Operand) (ho : o.op = .index t x ix) (s : ByteArray) (hx : a.eval x = .string s) (k : IntKind) (i : Nat) (hi : a.eval ix = .int k (i : Int)) (hlt : i < s.size) (w : World) :
    (execOp a.eval o).run P w = .ok (.value (.int .u8 (bt s i))) w := by
  have e : s[i]? = some s[i] := ByteArray.getElem?_lt' s i hlt
  have e2 : bt s i = (s[i].toNat : Int) := by
    unfold bt
    rw [Array.getElem?_eq_getElem hlt]
    rfl
  unfold execOp
  simp [ho, hx, hi, Instr.index, asIntOf, run_underlying hu, e, e2]
theorem run_strlh {P : Program} {a : Act} {o : Oper} (t : TypeId) (hu : P.underlying t = some .string) (x lo hi : Operand) (ho : o.op = .slice t x (some lo) (some hi) none) (s : ByteArray) (hx : a.eval x = .string s) (k k' : IntKind) (i j : Nat) (hl : a.eval lo = .int k (i : Int)) (hh : a.eval hi = .int k' (j : Int)) (hij : i ≤ j) (hle : j ≤ s.size) (w : World) :
    (execOp a.eval o).run P w = .ok (.value (.string (s.extract i j))) w := by
  unfold execOp
  simp [ho, hx, hl, hh, run_sliceAt_string w t (.string s) (some (.int k i)) (some (.int k' j)) none hu, run_slice_string w t s k k' i j hu (by omega) (by omega) (by omega)]
/-- Exclusive or, of bytes. -/
def xb (x y : Int) : Int := IntKind.wrap .u8 (BitVec.ofInt 8 x ^^^ BitVec.ofInt 8 y).toNat
theorem sb_av (n : Nat) (F : Nat → Int) (T : TypeId) : SB (.cells (av n (w8 F)) T) n (vs8 ((List.range n).map F)) := ⟨_, T, (0, 0), rfl, by simp [vs8], by rw [av_size]; exact Nat.le_refl _, fun i hi => by
  simp [vs8] at hi
  simp [vs8, av, w8, hi], fun i _ => by simp⟩
theorem run_ix0 {P : Program} {a : Act} {o : Oper} (t elem : TypeId) (hu : P.underlying t = some (.slice elem)) (hs : (P.info? elem).map (·.size) = some 1) (x ix : Operand) (ho : o.op = .indexAddr t x ix) (g len cap : Nat) (hx : a.eval x = .slice (some ⟨g, 0, none⟩) len cap) (k : IntKind) (i : Nat) (hi : a.eval ix = .int k (i : Int)) (hlt : i < len) (w : World) :
    (execOp a.eval o).run P w = .ok (.value (.pointer (some ⟨g, i, none⟩))) w := by
  have h := run_ixL (P := P) t elem hu hs x ix ho g 0 len cap hx k i hi hlt w
  rwa [Nat.zero_add] at h
theorem xb_nn (x y : Int) : 0 ≤ xb x y ∧ xb x y < 256 := by
  unfold xb
  simp [IntKind.wrap, IntKind.signed, IntKind.bits]
  omega
theorem quo26 (j : Nat) (hj : j < 1000000) : IntKind.wrap .i64 ((j : Int).tdiv 26) = ((j / 26 : Nat) : Int) := by
  rw [Int.tdiv_eq_ediv_of_nonneg (by omega), wrap64 (by omega) (by omega)]
  omega
theorem rem26 (n : Nat) : Int.tmod (n : Int) 26 = ((n % 26 : Nat) : Int) := by
  rw [Int.tmod_eq_emod_of_nonneg (by omega)]
  omega
def ob8 (x y : Int) : Int := IntKind.wrap .u8 (BitVec.ofInt 8 x ||| BitVec.ofInt 8 y).toNat
def nb8 (x y : Int) : Int := IntKind.wrap .u8 (BitVec.ofInt 8 x &&& BitVec.ofInt 8 y).toNat
def db8 (x y : Int) : Int := IntKind.wrap .u8 (BitVec.ofInt 8 x &&& ~~~ BitVec.ofInt 8 y).toNat
theorem run_shlU {P : Program} {a : Act} {o : Oper} (t rt : TypeId) (x y : Operand) (ho : o.op = .binOp .shl t x y rt) (k : Int) (ky : IntKind) (m : Nat) (hx : a.eval x = .int .u64 k) (hy : a.eval y = .int ky (m : Int)) (_hm : m ≤ 64) (w : World) :
    (execOp a.eval o).run P w = .ok (.value (.int .u64 (sl k m))) w := by
  unfold execOp sl
  simp [ho, hx, hy, eqGuard, binOp]
theorem run_shrU {P : Program} {a : Act} {o : Oper} (t rt : TypeId) (x y : Operand) (ho : o.op = .binOp .shr t x y rt) (k : Int) (ky : IntKind) (m : Nat) (hx : a.eval x = .int .u64 k) (hy : a.eval y = .int ky (m : Int)) (_hm : m ≤ 64) (w : World) :
    (execOp a.eval o).run P w = .ok (.value (.int .u64 (sr k m))) w := by
  have hp : (0 : Int) ≤ 2 ^ m := Int.le_of_lt (Int.pow_pos (by decide))
  unfold execOp sr
  rw [Int.fdiv_eq_ediv_of_nonneg k hp]
  simp [ho, hx, hy, eqGuard, binOp]
/-- A slice's end, from a place on. -/
theorem run_slL {P : Program} {a : Act} {o : Oper} (t e : TypeId) (hu : P.underlying t = some (.slice e)) (hs : (P.info? e).map (·.size) = some 1) (x lo : Operand) (ho : o.op = .slice t x (some lo) none none) (g off len cap : Nat) (hx : a.eval x = .slice (some ⟨g, off, none⟩) len cap) (k : IntKind) (i : Nat) (hi : a.eval lo = .int k (i : Int)) (hlt : i < cap) (hle : i ≤ len) (w : World) :
    (execOp a.eval o).run P w = .ok (.value (.slice (some ⟨g, off + i, none⟩) (len - i) (cap - i))) w := by
  cases hq : P.info? e with
  | none => simp [hq] at hs
  | some u =>
    have hsz : u.size = 1 := by simpa [hq] using hs
    have hne : ¬ cap = i := by omega
    unfold execOp
    simp [ho, hx, hi, Instr.sliceAt, Instr.slice, run_underlying hu, Instr.sliceBounds, run_sliceBound, sizeOf, typeInfo, hq, hsz, add_at, hne, hle]
/-- A slice's part, with its own bound. -/
theorem run_slM {P : Program} {a : Act} {o : Oper} (t e : TypeId) (hu : P.underlying t = some (.slice e)) (hs : (P.info? e).map (·.size) = some 1) (x lo hi mx : Operand) (ho : o.op = .slice t x (some lo) (some hi) (some mx)) (g off len cap : Nat) (hx : a.eval x = .slice (some ⟨g, off, none⟩) len cap) (k k' k2 : IntKind) (i j : Nat) (hi1 : a.eval lo = .int k (i : Int)) (hi2 : a.eval hi = .int k' (j : Int)) (hi3 : a.eval mx = .int k2 (j : Int)) (hlt : i < j) (hle : j ≤ cap) (w : World) :
    (execOp a.eval o).run P w = .ok (.value (.slice (some ⟨g, off + i, none⟩) (j - i) (j - i))) w := by
  cases hq : P.info? e with
  | none => simp [hq] at hs
  | some u =>
    have hsz : u.size = 1 := by simpa [hq] using hs
    have hne : ¬ j = i := by omega
    have hle2 : i ≤ j := by omega
    unfold execOp
    simp [ho, hx, hi1, hi2, hi3, Instr.sliceAt, Instr.slice, run_underlying hu, Instr.sliceBounds, run_sliceBound, sizeOf, typeInfo, hq, hsz, add_at, hne, hle, hle2]
section
variable {P : Program} {ops : Array Oper} {rest : List Oper} {o : Oper} {a : Act} {w : World} {c : Ctx} {L : List Blk} {Q : Exit → Act → World → Prop}
/-- Cells of memory that was there ahead, copied to a place of a block. -/
theorem pl_copyC (M : Mem c L w) (hw : Region.wanted o (yielded ops a.tmps) = true) (d : Option Tmp) (hd : o.dst = d) (dT sT ty elem : TypeId) (hu : P.underlying dT = some (.slice elem)) (hz : (P.info? elem).map (·.size) = some 1) (i g n T : Nat) (F : Nat → Value) (hi : L[i]? = some ⟨g, .cells (av n F) T⟩) (g2 : Nat) (F2 : Nat → Value) (od dl dc os sl sc k : Nat) (hk : k = Nat.min sl dl) (hd1 : od + k ≤ n) (hsrc : ∀ w, Mem c L w → ∀ j, j < k → w.cell? ⟨g2, os + j, none⟩ = some (F2 j)) (h1 : ∀ j, (F2 j).oneCell' = true) (Fn : Nat → Value) (hfn : ∀ j, j < n → (if od ≤ j ∧ j < od + k then F2 (j - od) else F j) = Fn j)
    (hrun : ∀ w, (execOp a.eval o).run P w = (do pure (Next.value (← Builtin.copy_ #[dT, sT] ty #[.slice (some ⟨g, od, none⟩) dl dc, .slice (some ⟨g2, os, none⟩) sl sc]))).run P w)
    (h : ∀ w', Mem c (L.set i ⟨g, .cells (av n Fn) T⟩) w' → PL P ops Q rest (a.put d (goInt k)) w') : PL P ops Q (o :: rest) a w := by
  have R := M.get i hi
  have hl : (av k F2).toList.length = k := by simp [av_size]
  have hr := run_copy_cells (P := P) w dT sT ty elem g od dl dc ⟨g2, os, none⟩ sl sc (av k F2).toList hu hz (by rw [hl, hk])
    (fun j v hv => by
      obtain ⟨hj, rfl⟩ := av_toList_get _ _ _ _ hv
      rw [add_at]
      exact hsrc w M j hj)
    (fun j hj => by rw [hl] at hj; rw [cell_av R (by omega)]; rfl) (fun j hj => free_av R _)
    (fun v hv => by
      obtain ⟨j, hj⟩ := List.mem_iff_getElem?.1 hv
      obtain ⟨hj', rfl⟩ := av_toList_get _ _ _ _ hj
      exact h1 _)
  rw [hl] at hr
  refine pl_to hw d hd (goInt k) _ ?_ (h _ (M.put i ⟨g, _⟩ hi _ (grown_setCells g _ _ _) (by rw [heap_setCells g T _ w _ od R, setAll_av n F F2 Fn od k hd1 hfn])))
  rw [hrun]
  simp only [Sem.run_bind, hr, Result.andThen_ok, Sem.run_pure]
end
theorem min_if (x y : Nat) : (if (y : Int) < (x : Int) then (y : Int) else (x : Int)) = ((min x y : Nat) : Int) := by
  by_cases h : y < x
  · rw [if_pos (by omega), Nat.min_eq_right (by omega)]
  · rw [if_neg (by omega), Nat.min_eq_left (by omega)]

end Go.Proofs.YtenafinbaanicaaDoor.Pol
