/- What operations hand back: words, places of arrays, loops, slices that grow. -/
import Derived.Test.YtenafinbaanicaaDoorBase
import Derived.Deep.LoopGhost
import Derived.OrdersHeld
import Derived.Deep.AppendSrc
import Derived.LoopN
import Derived.Laws.Bits64
import Derived.Laws.BitsAllLaws
import Derived.Laws.IdiomStrings
import Derived.Laws.BytesString
namespace Go.Proofs.YtenafinbaanicaaDoor
open Go.RowKit

/- words of 64 bits -/
def ua (x y : Int) : Int := IntKind.wrap .u64 (x + y)
def us (x y : Int) : Int := IntKind.wrap .u64 (x - y)
def um (x y : Int) : Int := IntKind.wrap .u64 (x * y)
def ux (x y : Int) : Int := IntKind.wrap .u64 (BitVec.ofInt 64 x ^^^ BitVec.ofInt 64 y).toNat
def un (x y : Int) : Int := IntKind.wrap .u64 (BitVec.ofInt 64 x &&& BitVec.ofInt 64 y).toNat
def uo (x y : Int) : Int := IntKind.wrap .u64 (BitVec.ofInt 64 x ||| BitVec.ofInt 64 y).toNat
def ut (x : Int) : Int := ux 18446744073709551615 x
def sl (x : Int) (n : Nat) : Int := IntKind.wrap .u64 (x * 2 ^ n)
def sr (x : Int) (n : Nat) : Int := x.fdiv (2 ^ n)
/- words of 32 bits -/
def va (x y : Int) : Int := IntKind.wrap .u32 (x + y)
def vx (x y : Int) : Int := IntKind.wrap .u32 (BitVec.ofInt 32 x ^^^ BitVec.ofInt 32 y).toNat
def vo (x y : Int) : Int := IntKind.wrap .u32 (BitVec.ofInt 32 x ||| BitVec.ofInt 32 y).toNat
def vt (x : Int) : Int := vx 4294967295 x
def vl (x : Int) (n : Nat) : Int := IntKind.wrap .u32 (x * 2 ^ n)
def wi (f : Nat → Int) : Nat → Value := fun i => .int .i64 (f i)
def cv (k : IntKind) (x : Int) : Int := IntKind.wrap k x

theorem put_w64 (f : Nat → Int) (k : Nat) (v : Int) (j : Nat) : (if j = k then .int .u64 v else w64 f j) = w64 (upd f k v) j := by
  unfold w64 upd
  split <;> rfl
theorem put_w8 (f : Nat → Int) (k : Nat) (v : Int) (j : Nat) : (if j = k then .int .u8 v else w8 f j) = w8 (upd f k v) j := by
  unfold w8 upd
  split <;> rfl

theorem put_w32 (f : Nat → Int) (k : Nat) (v : Int) (j : Nat) : (if j = k then .int .u32 v else w32 f j) = w32 (upd f k v) j := by
  unfold w32 upd
  split <;> rfl
theorem put_wi (f : Nat → Int) (k : Nat) (v : Int) (j : Nat) : (if j = k then .int .i64 v else wi f j) = wi (upd f k v) j := by
  unfold wi upd
  split <;> rfl

section
variable {P : Program} {ops : Array Oper} {rest : List Oper} {o : Oper} {a : Act} {w : World} {c : Ctx} {L : List Blk} {Q : Exit → Act → World → Prop}

theorem au_loop {c : Code} (I : Nat → Act → World → Prop) (N : Nat) (h0 : I 0 a w) (round : ∀ j a w, j < N → I j a w → c.wp P (Exit.then (I (j + 1)) Q) a w) (last : ∀ a w, I N a w → c.wp P (Exit.then (fun _ _ => False) Q) a w) : (Code.loop c).wp P Q a w := by
  refine wp_loop_ghost (fun n a w => n ≤ N ∧ I (N - n) a w) N ⟨Nat.le_refl _, by rw [Nat.sub_self]; exact h0⟩ fun n a w ⟨hn, hI⟩ => ?_
  cases n with
  | zero =>
    rw [Nat.sub_zero] at hI
    refine wp_mono (last a w hI) fun e a' w' hq => ?_
    cases e <;> first | exact hq | exact hq.elim
  | succ n =>
    refine wp_mono (round (N - (n + 1)) a w (by omega) hI) fun e a' w' hq => ?_
    rw [show N - (n + 1) + 1 = N - n by omega] at hq
    cases e <;> first | exact hq | exact ⟨n, by omega, by omega, hq⟩

theorem add_at (g o i : Nat) : (⟨g, o, none⟩ : Addr).add i = ⟨g, o + i, none⟩ := by unfold Addr.add; split <;> simp_all

theorem run_ix1 (t : TypeId) (len : Nat) (elem : TypeId) (hu : P.underlying t = some (.array len elem)) (hs : (P.info? elem).map (·.size) = some 1) (x ix : Operand) (ho : o.op = .indexAddr t x ix) (g : Nat) (hx : a.eval x = .pointer (some ⟨g, 0, none⟩)) (k : IntKind) (i : Nat) (hi : a.eval ix = .int k (i : Int)) (hlt : i < len) (w : World) :
    (execOp a.eval o).run P w = .ok (.value (.pointer (some ⟨g, i, none⟩))) w := by
  cases hq : P.info? elem with
  | none => simp [hq] at hs
  | some u =>
    have hsz : u.size = 1 := by simpa [hq] using hs
    unfold execOp
    simp [ho, hx, hi, Instr.indexAt, Instr.sureAddr, asIntOf, run_underlying hu, sizeOf, typeInfo, hq, hsz, add_at, hlt]

theorem run_ixA (t : TypeId) (len : Nat) (elem : TypeId) (hu : P.underlying t = some (.array len elem)) (hs : (P.info? elem).map (·.size) = some 1) (hag : ∀ w, (isAgg elem).run P w = .ok false w) (x ix : Operand) (ho : o.op = .index t x ix) (F : Nat → Value) (hx : a.eval x = .agg (av len F)) (k : IntKind) (i : Nat) (hi : a.eval ix = .int k (i : Int)) (hlt : i < len) {v : Value} (hv : F i = v) (w : World) :
    (execOp a.eval o).run P w = .ok (.value v) w := by
  cases hq : P.info? elem with
  | none => simp [hq] at hs
  | some u =>
    have hsz : u.size = 1 := by simpa [hq] using hs
    have hg := av_get len F i hlt
    unfold execOp
    simp [ho, hx, hi, Instr.index, asIntOf, run_underlying hu, sizeOf, typeInfo, hq, hsz, hlt, part, hag, hg, hv]

theorem results_tmp1 {fn : Func} {p : Tmp} (h : fn.results = #[.tmp p]) (tmps : Array Value) (w : World) (v : Value) (hp : tmps.getD p undef = v) : (results fn tmps).run P w = .ok v w := by
  have hp' : tmps[p]?.getD undef = v := by simpa using hp
  simp [results, h, hp']
theorem results_none {fn : Func} (h : fn.results = #[]) (tmps : Array Value) (w : World) : (results fn tmps).run P w = .ok (.tuple #[]) w := by
  simp [results, h]

/-- Cells of a block, copied to another place of it. -/
theorem pl_copyA (M : Mem c L w) (hw : Region.wanted o (yielded ops a.tmps) = true) (d : Option Tmp) (hd : o.dst = d) (dT sT ty elem : TypeId) (hu : P.underlying dT = some (.slice elem)) (hz : (P.info? elem).map (·.size) = some 1) (i g n T : Nat) (F : Nat → Value) (hi : L[i]? = some ⟨g, .cells (av n F) T⟩) (od dl dc os sl sc k : Nat) (hk : k = Nat.min sl dl) (hd1 : od + k ≤ n) (hs1 : os + k ≤ n) (h1 : ∀ j, j < n → (F j).oneCell' = true) (Fn : Nat → Value) (hfn : ∀ j, j < n → (if od ≤ j ∧ j < od + k then F (os + (j - od)) else F j) = Fn j)
    (hrun : ∀ w, (execOp a.eval o).run P w = (do pure (Next.value (← Builtin.copy_ #[dT, sT] ty #[.slice (some ⟨g, od, none⟩) dl dc, .slice (some ⟨g, os, none⟩) sl sc]))).run P w)
    (h : ∀ w', Mem c (L.set i ⟨g, .cells (av n Fn) T⟩) w' → PL P ops Q rest (a.put d (goInt k)) w') : PL P ops Q (o :: rest) a w := by
  have R := M.get i hi
  have hl : (av k (fun j => F (os + j))).toList.length = k := by simp [av_size]
  have hr := run_copy_cells (P := P) w dT sT ty elem g od dl dc ⟨g, os, none⟩ sl sc (av k (fun j => F (os + j))).toList hu hz (by rw [hl, hk])
    (fun j v hv => by
      obtain ⟨hj, rfl⟩ := av_toList_get _ _ _ _ hv
      rw [add_at]
      exact cell_av R (by omega))
    (fun j hj => by rw [hl] at hj; rw [cell_av R (by omega)]; rfl) (fun j hj => free_av R _)
    (fun v hv => by
      obtain ⟨j, hj⟩ := List.mem_iff_getElem?.1 hv
      obtain ⟨hj', rfl⟩ := av_toList_get _ _ _ _ hj
      exact h1 _ (by omega))
  rw [hl] at hr
  refine pl_to hw d hd (goInt k) _ ?_ (h _ (M.put i ⟨g, _⟩ hi _ (grown_setCells g _ _ _) (by rw [heap_setCells g T _ w _ od R, setAll_av n F (fun j => F (os + j)) Fn od k hd1 hfn])))
  rw [hrun]
  simp only [Sem.run_bind, hr, Result.andThen_ok, Sem.run_pure]

/-- Cells of a block, copied to a place of another one. -/
theorem pl_copyB (M : Mem c L w) (hw : Region.wanted o (yielded ops a.tmps) = true) (d : Option Tmp) (hd : o.dst = d) (dT sT ty elem : TypeId) (hu : P.underlying dT = some (.slice elem)) (hz : (P.info? elem).map (·.size) = some 1) (i g n T : Nat) (F : Nat → Value) (hi : L[i]? = some ⟨g, .cells (av n F) T⟩) (i2 g2 n2 T2 : Nat) (F2 : Nat → Value) (hi2 : L[i2]? = some ⟨g2, .cells (av n2 F2) T2⟩) (od dl dc os sl sc k : Nat) (hk : k = Nat.min sl dl) (hd1 : od + k ≤ n) (hs1 : os + k ≤ n2) (h1 : ∀ j, j < n2 → (F2 j).oneCell' = true) (Fn : Nat → Value) (hfn : ∀ j, j < n → (if od ≤ j ∧ j < od + k then F2 (os + (j - od)) else F j) = Fn j)
    (hrun : ∀ w, (execOp a.eval o).run P w = (do pure (Next.value (← Builtin.copy_ #[dT, sT] ty #[.slice (some ⟨g, od, none⟩) dl dc, .slice (some ⟨g2, os, none⟩) sl sc]))).run P w)
    (h : ∀ w', Mem c (L.set i ⟨g, .cells (av n Fn) T⟩) w' → PL P ops Q rest (a.put d (goInt k)) w') : PL P ops Q (o :: rest) a w := by
  have R := M.get i hi
  have R2 := M.get i2 hi2
  have hl : (av k (fun j => F2 (os + j))).toList.length = k := by simp [av_size]
  have hr := run_copy_cells (P := P) w dT sT ty elem g od dl dc ⟨g2, os, none⟩ sl sc (av k (fun j => F2 (os + j))).toList hu hz (by rw [hl, hk])
    (fun j v hv => by
      obtain ⟨hj, rfl⟩ := av_toList_get _ _ _ _ hv
      rw [add_at]
      exact cell_av R2 (by omega))
    (fun j hj => by rw [hl] at hj; rw [cell_av R (by omega)]; rfl) (fun j hj => free_av R _)
    (fun v hv => by
      obtain ⟨j, hj⟩ := List.mem_iff_getElem?.1 hv
      obtain ⟨hj', rfl⟩ := av_toList_get _ _ _ _ hj
      exact h1 _ (by omega))
  rw [hl] at hr
  refine pl_to hw d hd (goInt k) _ ?_ (h _ (M.put i ⟨g, _⟩ hi _ (grown_setCells g _ _ _) (by rw [heap_setCells g T _ w _ od R, setAll_av n F (fun j => F2 (os + j)) Fn od k hd1 hfn])))
  rw [hrun]
  simp only [Sem.run_bind, hr, Result.andThen_ok, Sem.run_pure]

/-- The byte at a place of a string. -/
def bt (s : ByteArray) (i : Nat) : Int := ((s.data[i]?.getD 0).toNat : Int)
theorem bt_nn (s : ByteArray) (i : Nat) : 0 ≤ bt s i ∧ bt s i < 256 := by
  unfold bt
  have := (s.data[i]?.getD 0).toNat_lt
  omega

theorem bytes_take (s : ByteArray) (k : Nat) (hk : k ≤ s.size) : List.take k (List.map (fun b : UInt8 => Value.int .u8 b.toNat) s.data.toList) = (av k (w8 (bt s))).toList := by
  have hsd : s.data.size = s.size := rfl
  apply List.ext_getElem?
  intro i
  by_cases hi : i < k
  · have e : (av k (w8 (bt s))).toList[i]? = some (w8 (bt s) i) := by rw [Array.getElem?_toList, av_get k _ i hi]
    rw [e, List.getElem?_take_of_lt hi, List.getElem?_map, Array.getElem?_toList]
    unfold w8 bt
    rw [Array.getElem?_eq_getElem (by omega)]
    rfl
  · rw [List.getElem?_eq_none (by simp; omega), List.getElem?_eq_none (by simp [av_size]; omega)]

/-- The bytes of a string, as many as there is room for, copied into a block. -/
theorem pl_copyS (M : Mem c L w) (hw : Region.wanted o (yielded ops a.tmps) = true) (d : Option Tmp) (hd : o.dst = d) (dT sT ty elem : TypeId) (hu : P.underlying dT = some (.slice elem)) (hz : (P.info? elem).map (·.size) = some 1) (i g n T : Nat) (F : Nat → Value) (hi : L[i]? = some ⟨g, .cells (av n F) T⟩) (od dl dc : Nat) (s : ByteArray) (k : Nat) (hk : k = Nat.min s.size dl) (hd1 : od + k ≤ n) (Fn : Nat → Value) (hfn : ∀ j, j < n → (if od ≤ j ∧ j < od + k then w8 (bt s) (j - od) else F j) = Fn j)
    (hrun : ∀ w, (execOp a.eval o).run P w = (do pure (Next.value (← Builtin.copy_ #[dT, sT] ty #[.slice (some ⟨g, od, none⟩) dl dc, .string s]))).run P w)
    (h : ∀ w', Mem c (L.set i ⟨g, .cells (av n Fn) T⟩) w' → PL P ops Q rest (a.put d (goInt k)) w') : PL P ops Q (o :: rest) a w := by
  have R := M.get i hi
  have hks : k ≤ s.size := by rw [hk]; exact Nat.min_le_left _ _
  have hl : (av k (w8 (bt s))).toList.length = k := by simp [av_size]
  have hst := run_storeCells_cells (P := P) g od (av k (w8 (bt s))).toList 0 w (fun j hj => by rw [hl] at hj; rw [Nat.add_zero, cell_av R (by omega)]; rfl) (fun j _ => free_av R _)
    (fun v hv => by
      obtain ⟨j, hj⟩ := List.mem_iff_getElem?.1 hv
      obtain ⟨hj', rfl⟩ := av_toList_get _ _ _ _ hj
      rfl)
  have hb := bytes_take s k hks
  refine pl_to hw d hd (goInt k) _ ?_ (h _ (M.put i ⟨g, _⟩ hi _ (grown_setCells g _ _ _) (by rw [heap_setCells g T _ w _ od R, setAll_av n F (w8 (bt s)) Fn od k hd1 hfn])))
  rw [hrun]
  cases hq : P.info? elem with
  | none => simp [hq] at hz
  | some t =>
    simp only [Nat.add_zero] at hst
    have e : (Builtin.copy_ #[dT, sT] ty #[.slice (some ⟨g, od, none⟩) dl dc, .string s]).run P w = .ok (goInt k) (w.setCells g od (av k (w8 (bt s))).toList) := by
      simp only [Builtin.copy_, List.getElem?_toArray, List.getElem?_cons_zero, List.getElem?_cons_succ, Sem.run_bind, run_underlying hu, Result.andThen_ok, Builtin.lenOf, Sem.run_pure, Builtin.firstCells, sizeOf, typeInfo, ← hk]
      simp [hq, hb, hst]
    simp only [Sem.run_bind, e, Result.andThen_ok, Sem.run_pure]

/-- An array's end, from a place on. -/
theorem run_slA (t : TypeId) (len : Nat) (elem : TypeId) (hu : P.underlying t = some (.array len elem)) (hs : (P.info? elem).map (·.size) = some 1) (x lo : Operand) (ho : o.op = .slice t x (some lo) none none) (g off : Nat) (hx : a.eval x = .pointer (some ⟨g, off, none⟩)) (k : IntKind) (i : Nat) (hi : a.eval lo = .int k (i : Int)) (hlt : i < len) (w : World) :
    (execOp a.eval o).run P w = .ok (.value (.slice (some ⟨g, off + i, none⟩) (len - i) (len - i))) w := by
  cases hq : P.info? elem with
  | none => simp [hq] at hs
  | some u =>
    have hsz : u.size = 1 := by simpa [hq] using hs
    have hne : ¬ len = i := by omega
    unfold execOp
    simp [ho, hx, hi, Instr.sliceAt, Instr.sureAddr, run_underlying hu, Instr.sliceBounds, run_sliceBound, sizeOf, typeInfo, hq, hsz, add_at, hne, Nat.le_of_lt hlt]
end

theorem results_tmp2 {P : Program} {fn : Func} {p q : Tmp} (h : fn.results = #[.tmp p, .tmp q]) (tmps : Array Value) (w : World) (v u : Value) (hp : tmps.getD p undef = v) (hq : tmps.getD q undef = u) : (results fn tmps).run P w = .ok (.tuple #[v, u]) w := by
  have hp' : tmps[p]?.getD undef = v := by simpa using hp
  have hq' : tmps[q]?.getD undef = u := by simpa using hq
  simp [results, h, hp', hq']

/- A region that draws its order: what only reads, and reads what nobody but the last operation writes, is taken first. -/
section
variable {P : Program} {ops : Array Oper} {Q : Exit → Act → World → Prop} {md : Region.Mode} {S : World → Prop} {n : Nat}
/-- Whatever order is picked; S holds behind every operation ahead of number n. -/
def wpAnyL (P : Program) (md : Region.Mode) (ops : Array Oper) (Q : Exit → Act → World → Prop) (S : World → Prop) (n : Nat) : Nat → Array Bool → Act → World → Prop
  | 0, listed, a, w => Region.ready md ops listed = [] ∧ Q .normal a w
  | fuel + 1, listed, a, w =>
    (Region.ready md ops listed = [] → Q .normal a w) ∧
    ∀ i ∈ Region.ready md ops listed, wpOp P ops Q i (fun a' w' => (i < n → S w') ∧ wpAnyL P md ops Q S n fuel (listed.setIfInBounds i true) a' w') a w

theorem wpAny_of_L : ∀ (fuel : Nat) (listed : Array Bool) (a : Act) (w : World), wpAnyL P md ops Q S n fuel listed a w → wpAny P md ops Q fuel listed a w
  | 0, _, _, _, h => h
  | fuel + 1, _, _, _, h => ⟨h.1, fun i hi => wpOp_mono (fun a' w' h' => wpAny_of_L fuel _ a' w' h'.2) (h.2 i hi)⟩

theorem wpAnyL_first {i : Nat} {oi : Oper} {v : Value} (hi : ops[i]? = some oi) (hin : i < n) (hs : Region.sinkB md ops n = true) (hc : Region.chainB md ops n = true) (hn : n < ops.size) (hsel : ∀ (j : Nat) (o : Oper) cs b, ops[j]? = some o → o.op ≠ .select cs b)
    (hQ : ∀ c a w, Q (.panic c) (a.put oi.dst v) w → Q (.panic c) a w) :
    ∀ (fuel : Nat) (listed : Array Bool) (a : Act) (w : World), HeadInv md ops n listed →
      (∀ j oj, ops[j]? = some oj → j ≠ i → listed.getD j true = false → (∀ e ∈ oj.after, Region.binds md e = true → e.on ≠ i) → oi.apart ops oj = true) →
      i ∈ Region.ready md ops listed → YieldsIf P ops S oi v a → S w →
      wpAnyL P md ops Q S n fuel (listed.setIfInBounds i true) (a.put oi.dst v) w → wpAnyL P md ops Q S n (fuel + 1) listed a w := by
  intro fuel
  induction fuel with
  | zero =>
    intro listed a w _ _ hr hy hS H
    refine ⟨fun h => (by rw [h] at hr; cases hr), fun j hj => ?_⟩
    by_cases hji : j = i
    · subst hji
      exact hy.wpOp hi hS ⟨fun _ => hS, H⟩
    · have h2 := ready_mono hj hji
      rw [H.1] at h2
      cases h2
  | succ fuel ih =>
    intro listed a w inv hfree hr hy hS H
    refine ⟨fun h => (by rw [h] at hr; cases hr), fun j hj => ?_⟩
    by_cases hji : j = i
    · subst hji
      exact hy.wpOp hi hS ⟨fun _ => hS, H⟩
    · have h1 := H.2 j (ready_mono hj hji)
      obtain ⟨hjun, oj, hoj, hall⟩ := mem_ready.1 hj
      have hun := (mem_ready.1 hr).1
      have hjn : j < n := Nat.lt_of_not_le fun h => tail_waits hs hc hn inv _ i rfl hin hun j h hj
      have hnot : ∀ e ∈ oj.after, Region.binds md e = true → e.on ≠ i := fun e he hb heq => by
        have h1 := hall e he hb
        rw [heq, getD_both hun] at h1
        cases h1
      have h2 := wpOp_putIf hoj (hfree j oj hoj hji hjun hnot) (fun cs b => hsel i oi cs b hi) (fun cs b => hsel j oj cs b hoj) hQ hy h1
      have hfree' : ∀ k ok, ops[k]? = some ok → k ≠ i → (listed.setIfInBounds j true).getD k true = false → (∀ e ∈ ok.after, Region.binds md e = true → e.on ≠ i) → oi.apart ops ok = true := fun k ok hk hki hku hkn => by
        refine hfree k ok hk hki ?_ hkn
        by_cases hjk : j = k
        · subst hjk
          exact hjun
        · rw [getD_set_ne true hjk] at hku
          exact hku
      refine wpOp_mono (fun a' w' h3 => ⟨fun _ => h3.2.1 hjn, ih (listed.setIfInBounds j true) a' w' (inv.set hj hjn) hfree' (ready_mono hr (Ne.symm hji)) h3.1 (h3.2.1 hjn) ?_⟩) h2
      rw [Array.setIfInBounds_comm _ _ hji]
      exact h3.2.2
end

structure HL (P : Program) (ops : Array Oper) (Q : Exit → Act → World → Prop) (S : World → Prop) (n : Nat) (fuel : Nat) (listed : Array Bool) (a : Act) (w : World) : Prop where
  out : (∀ c a d v w, Q (.panic c) (Act.put a d v) w → Q (.panic c) a w) → (Region.sinkB .any ops n = true ∧ Region.chainB .any ops n = true ∧ n < ops.size ∧ Region.noSelect ops = true) → HeadInv .any ops n listed → wpAnyL P .any ops Q S n fuel listed a w

section
variable {P : Program} {ops : Array Oper} {o : Oper} {a : Act} {w : World} {c : Ctx} {L : List Blk} {Q : Exit → Act → World → Prop} {S : World → Prop} {n fuel : Nat} {listed : Array Bool}

theorem rg_held {id : Nat} {l : List Oper} (M : Mem c L w) (Ls : List Blk) (n : Nat) (hn : l.length = n + 1) (hm : P.follows .mixedOrders = true) (hB : (Region.sinkB .any l.toArray n && Region.chainB .any l.toArray n && Region.noSelect l.toArray) = true) (hQ : ∀ c a d v w, Q (.panic c) (Act.put a d v) w → Q (.panic c) a w)
    (h : ∀ w', Mem c L w' → HL P l.toArray Q (Mem c Ls) n (n + 1) (Array.replicate (n + 1) false) a w') : (Code.region id l.toArray true).wp P Q a w := by
  simp only [Bool.and_eq_true] at hB
  have hsz : l.toArray.size = n + 1 := by simpa using hn
  have inv : HeadInv .any l.toArray n (Array.replicate (n + 1) false) :=
    ⟨by simpa using hn.symm, fun j oj _ hl => (by rw [getD_replicate_false] at hl; cases hl), fun t _ ht => getD_in (by simp; omega) (getD_replicate_false _ _)⟩
  have h2 := (h w.drew M.drew).out hQ ⟨hB.1.1, hB.1.2, by omega, hB.2⟩ inv
  refine wp_region_any hm (wpAny_of_L (S := Mem c Ls) (n := n) _ _ _ _ ?_)
  rw [hsz]
  exact h2
theorem hl_val (M : S w) (i : Nat) (hi : ops.toList[i]? = some o) (hin : i < n) (hf : Region.free .any ops listed i = true) (hr : (Region.ready .any ops listed).contains i = true) (hw : Region.wanted o (yielded ops a.tmps) = true) (d : Option Tmp) (hd : o.dst = d) (v : Value) (hrun : ∀ w, S w → (execOp a.eval o).run P w = .ok (.value v) w)
    (h : HL P ops Q S n fuel (listed.setIfInBounds i true) (a.put d v) w) : HL P ops Q S n (fuel + 1) listed a w := by
  subst hd
  have hi' : ops[i]? = some o := by rw [← Array.getElem?_toList]; exact hi
  have hr' : i ∈ Region.ready .any ops listed := by simpa using hr
  exact ⟨fun hQ hB inv => wpAnyL_first hi' hin hB.1 hB.2.1 hB.2.2.1 (Region.noSelect_spec hB.2.2.2) (fun c a w h => hQ c a _ _ w h) fuel listed a w inv (Region.free_spec hi' hf) hr' (.inl ⟨hw, hrun⟩) M (h.out hQ hB (inv.set hr' hin))⟩
theorem hl_skip (M : S w) (i : Nat) (hi : ops.toList[i]? = some o) (hin : i < n) (hf : Region.free .any ops listed i = true) (hr : (Region.ready .any ops listed).contains i = true) (hw : Region.wanted o (yielded ops a.tmps) = false) (d : Option Tmp) (hd : o.dst = d)
    (h : HL P ops Q S n fuel (listed.setIfInBounds i true) (a.put d undef) w) : HL P ops Q S n (fuel + 1) listed a w := by
  subst hd
  have hi' : ops[i]? = some o := by rw [← Array.getElem?_toList]; exact hi
  have hr' : i ∈ Region.ready .any ops listed := by simpa using hr
  exact ⟨fun hQ hB inv => wpAnyL_first hi' hin hB.1 hB.2.1 hB.2.2.1 (Region.noSelect_spec hB.2.2.2) (fun c a w h => hQ c a _ _ w h) fuel listed a w inv (Region.free_spec hi' hf) hr' (.inr ⟨hw, rfl⟩) M (h.out hQ hB (inv.set hr' hin))⟩
theorem hl_cell {Ls : List Blk} (M : Mem c Ls w) (i : Nat) (hi : ops.toList[i]? = some o) (hin : i < n) (hf : Region.free .any ops listed i = true) (hr : (Region.ready .any ops listed).contains i = true) (hw : Region.wanted o (yielded ops a.tmps) = true) (d : Option Tmp) (hd : o.dst = d) (ty : TypeId) (x : Operand) (ho : o.op = .load ty x) (g off : Nat) (hx : a.eval x = .pointer (some ⟨g, off, none⟩)) (v : Value) (hag : ∀ w, (isAgg ty).run P w = .ok false w) (hc : ∀ w, Mem c Ls w → w.cell? ⟨g, off, none⟩ = some v)
    (h : HL P ops Q (Mem c Ls) n fuel (listed.setIfInBounds i true) (a.put d v) w) : HL P ops Q (Mem c Ls) n (fuel + 1) listed a w :=
  hl_val M i hi hin hf hr hw d hd v (fun w' M' => by
    have hr := run_cell (P := P) (hc w' M') ty hag
    unfold execOp
    simp only [ho, hx, Sem.run_bind, hr, Result.andThen_ok, Sem.run_pure]) h
theorem hl_load {Ls : List Blk} (M : Mem c Ls w) (i : Nat) (hi : ops.toList[i]? = some o) (hin : i < n) (hf : Region.free .any ops listed i = true) (hr : (Region.ready .any ops listed).contains i = true) (hw : Region.wanted o (yielded ops a.tmps) = true) (d : Option Tmp) (hd : o.dst = d) (ty : TypeId) (x : Operand) (ho : o.op = .load ty x) (j g off : Nat) (hx : a.eval x = .pointer (some ⟨g, off, none⟩)) (m T : Nat) (F : Nat → Value) (hj : Ls[j]? = some ⟨g, .cells (av m F) T⟩)
    (k : Nat) (F' : Nat → Value) (hp : ∀ j, j < k → F (off + j) = F' j) (hk : off + k ≤ m) (t : TypeDesc) (hu : P.underlying ty = some t) (ht : t.isRow = true) (hz : (P.info? ty).map (·.size) = some k)
    (h : HL P ops Q (Mem c Ls) n fuel (listed.setIfInBounds i true) (a.put d (.agg (av k F'))) w) : HL P ops Q (Mem c Ls) n (fuel + 1) listed a w :=
  hl_val M i hi hin hf hr hw d hd _ (fun w' M' => by
    unfold execOp
    have hl := run_loadAt_mid (P := P) w' g off ty (av k F').toList t (range_av (M'.get j hj) off k F' hk hp) hu ht (by rw [hz]; simp [av_size])
    simp only [ho, hx, Sem.run_bind, hl, Result.andThen_ok, Sem.run_pure, Array.toArray_toList]) h
theorem wp_unthen {X K : Act → World → Prop} (h : o.wp P a w X (Exit.then K Q)) : o.wp P a w X Q := by
  unfold Oper.wp at *
  generalize (execOp a.eval o).run P w = r at *
  cases r with
  | ok n w' =>
    cases n <;> simp only [Oper.upon] at h ⊢ <;>
      first
        | exact h
        | exact Calls.mono h (fun e w'' he => by cases e <;> exact he)
  | halt x w' => cases x <;> simp only [Oper.upon] at h ⊢ <;> exact h
theorem wpOp_one {i : Nat} {K : Act → World → Prop} (hi : ops[i]? = some o) (h : wpList P ops (Exit.then K Q) [o] a w) : wpOp P ops Q i K a w := by
  unfold wpOp
  simp only [hi]
  unfold wpList at h
  split
  · rename_i hw
    rw [if_pos hw] at h
    rcases h with h | ⟨h, a', w', h2⟩
    · exact .inl (Oper.wp_mono (fun a' w' h2 => h2) (wp_unthen h))
    · exact .inr ⟨h, a', w', h2⟩
  · rename_i hw
    rw [if_neg hw] at h
    exact h
/-- Only number i may come up. -/
theorem hl_one (i : Nat) (hin : i < n) (hr : Region.ready .any ops listed = [i]) (hi : ops.toList[i]? = some o)
    (h : PL P ops (Exit.then (fun a' w' => S w' ∧ HL P ops Q S n fuel (listed.setIfInBounds i true) a' w') Q) [o] a w) : HL P ops Q S n (fuel + 1) listed a w := by
  refine ⟨fun hQ hB inv => ⟨fun h0 => (by rw [hr] at h0; cases h0), fun j hj => ?_⟩⟩
  have hj' := hj
  rw [hr] at hj
  obtain rfl := List.mem_singleton.1 hj
  refine wpOp_mono (fun a' w' h2 => ⟨fun _ => h2.1, h2.2.out hQ hB (inv.set hj' hin)⟩) (wpOp_one (by rw [← Array.getElem?_toList]; exact hi) h.out)
/-- The last one. -/
theorem hl_end (hr : Region.ready .any ops listed = [n]) (hr2 : Region.ready .any ops (listed.setIfInBounds n true) = []) (hi : ops.toList[n]? = some o)
    (h : PL P ops (Exit.then (fun a' w' => Q .normal a' w') Q) [o] a w) : HL P ops Q S n (fuel + 1) listed a w := by
  refine ⟨fun hQ hB inv => ⟨fun h0 => (by rw [hr] at h0; cases h0), fun j hj => ?_⟩⟩
  rw [hr] at hj
  obtain rfl := List.mem_singleton.1 hj
  refine wpOp_mono (fun a' w' h2 => ⟨fun h => absurd h (Nat.lt_irrefl _), ?_⟩) (wpOp_one (by rw [← Array.getElem?_toList]; exact hi) h.out)
  cases fuel with
  | zero => exact ⟨hr2, h2⟩
  | succ f => exact ⟨fun _ => h2, fun k hk => by rw [hr2] at hk; cases hk⟩
end
end Go.Proofs.YtenafinbaanicaaDoor
