/- OrderLaws answers true, told by what its callees hand back. -/
import Derived.Test.YtaaijicpdampiaaReckons
namespace Go.Proofs.Ytaaijicpdampiaa
open Go.RowKit

section
variable {P : Program} {ops : Array Oper} {md : Region.Mode} {Q : Exit → Act → World → Prop}
theorem ready_to {fuel : Nat} {listed : Array Bool} {a : Act} {w : World} {i : Nat} {o : Oper} {rs : List Nat} (v : Value) (w' : World) (ho : ops[i]? = some o) (hgd : o.guard = none) (hrun : (execOp a.eval o).run P w = .ok (.value v) w')
    (h : wpAny P md ops Q fuel (listed.setIfInBounds i true) (a.put o.dst v) w') (hs : AllReady P md ops Q fuel listed a w rs) : AllReady P md ops Q fuel listed a w (i :: rs) :=
  ready_step ho hgd (by unfold Oper.wp; rw [hrun]; exact h) hs
end

theorem ready_new {P : Program} {ops : Array Oper} {md : Region.Mode} {Q : Exit → Act → World → Prop} {fuel : Nat} {listed : Array Bool} {a : Act} {w : World} {i : Nat} {o : Oper} {rs : List Nat} (v : Nat → Value) (Z : Obj) (ho : ops[i]? = some o) (hgd : o.guard = none) (hrun : (execOp a.eval o).run P w = .ok (.value (v w.heap.size)) (w.alloc Z))
    (h : ∀ g w', w'.heap[g]? = some Z → w.heap.size ≤ g → Below w.heap.size w w' → wpAny P md ops Q fuel (listed.setIfInBounds i true) (a.put o.dst (v g)) w') (hs : AllReady P md ops Q fuel listed a w rs) : AllReady P md ops Q fuel listed a w (i :: rs) :=
  ready_to _ _ ho hgd hrun (h w.heap.size (w.alloc Z) (heap_alloc_new w Z) (Nat.le_refl _) (new_below w Z)) hs

theorem ready_put {P : Program} {ops : Array Oper} {md : Region.Mode} {Q : Exit → Act → World → Prop} {fuel : Nat} {listed : Array Bool} {a : Act} {w : World} {i : Nat} {o : Oper} {rs : List Nat} {b T n : Nat} {f f' : Nat → Int} (R : Row w b T n f) (ho : ops[i]? = some o) (hgd : o.guard = none) (ty : TypeId) (x y : Operand) (hop : o.op = .store ty x y)
    (hx : a.eval x = .pointer (some ⟨b, 0, none⟩)) (hy : a.eval y = .agg (arr n f')) (hi : (P.info? ty).map (·.size) = some (arr n f').size)
    (h : ∀ w', Row w' b T n f' → (∀ k, k ≠ b → w'.heap[k]? = w.heap[k]?) → (∀ B u, B ≤ b → Below B u w → Below B u w') → wpAny P md ops Q fuel (listed.setIfInBounds i true) (a.put o.dst undef) w') (hs : AllReady P md ops Q fuel listed a w rs) : AllReady P md ops Q fuel listed a w (i :: rs) :=
  ready_store ho hgd ty x y hop b 0 (arr n f') hx hy (by rw [arr_size]; exact R.there) hi (arr_one _ _) (h _ (R.setAll f') (fun k hk => heap_setCells_other b k hk _ _ _) (fun B u hB hu => below_setCells hB _ 0 hu)) hs

theorem Row.at_ {W W' : World} {g : Nat} {T : TypeId} {n : Nat} {f : Nat → Int} (h : Row W g T n f) (e : W'.heap[g]? = W.heap[g]?) : Row W' g T n f := by
  unfold Row
  rw [e]
  exact h

/-- 32 bytes 0 in block g. -/
def Z32 (W : World) (g : Nat) : Prop := W.heap[g]? = some (.cells ((List.replicate 32 (0 : Int)).map (Value.int .u8)).toArray 5 (0, 0))
theorem Z32.lt {W : World} {g : Nat} (h : Z32 W g) : g < W.heap.size := by
  by_cases hlt : g < W.heap.size
  · exact hlt
  · have hn : W.heap[g]? = none := by simp; omega
    rw [Z32, hn] at h
    cases h
theorem Z32.keep {W W' : World} {g : Nat} (h : Z32 W g) (hb : Below W.heap.size W W') : Z32 W' g := by
  unfold Z32
  rw [hb.block g h.lt]
  exact h
theorem Z32.new (W : World) : Z32 (W.alloc (.cells #[Value.int IntKind.u8 0, Value.int IntKind.u8 0, Value.int IntKind.u8 0, Value.int IntKind.u8 0, Value.int IntKind.u8 0, Value.int IntKind.u8 0, Value.int IntKind.u8 0, Value.int IntKind.u8 0, Value.int IntKind.u8 0, Value.int IntKind.u8 0, Value.int IntKind.u8 0, Value.int IntKind.u8 0, Value.int IntKind.u8 0, Value.int IntKind.u8 0, Value.int IntKind.u8 0, Value.int IntKind.u8 0, Value.int IntKind.u8 0, Value.int IntKind.u8 0, Value.int IntKind.u8 0, Value.int IntKind.u8 0, Value.int IntKind.u8 0, Value.int IntKind.u8 0, Value.int IntKind.u8 0, Value.int IntKind.u8 0, Value.int IntKind.u8 0, Value.int IntKind.u8 0, Value.int IntKind.u8 0, Value.int IntKind.u8 0, Value.int IntKind.u8 0, Value.int IntKind.u8 0, Value.int IntKind.u8 0, Value.int IntKind.u8 0] 5)) W.heap.size := heap_alloc_new W _

theorem run_conv {a : Act} {o : Oper} {W : World} {g : Nat} (t : Operand) (ho : o.op = .convert 48 9 t) (hx : a.eval t = .slice (some ⟨g, 0, none⟩) 32 32) (hz : Z32 W g) : (execOp a.eval o).run Try.prog W = .ok (.value (.string zS)) W := by
  have h := conv_bytes W g 5 (List.replicate 32 0) 32 32 (0, 0) hz rfl
  unfold execOp
  simp only [ho, hx, Sem.run_bind, h, Result.andThen_ok, Sem.run_pure]
  rfl

theorem run_cat {a : Act} {o : Oper} {W : World} (A B : ByteArray) (x y : Operand) (rt : TypeId) (ho : o.op = .binOp .add 9 x y rt) (hx : a.eval x = .string A) (hy : a.eval y = .string B) (hA : A.size = 32) (hB : B.size = 32) : (execOp a.eval o).run Try.prog W = .ok (.value (.string (A ++ B))) W := by
  have h := run_string_add (P := Try.prog) W A B (by omega) (by omega)
  unfold execOp
  simp only [ho, hx, hy]
  simp [eqGuard, binOp, h, go_sem]

/-- What the law's callees hand back. -/
structure LF (r s t b : ByteArray) (c : Bool) (x y z ab ba mab mba abC bc aBC mabC mbc aMbc aDbc mac dsm nx xnx : Nat → Int) : Prop where
  of1 : ∀ w, Calls Try.prog 15 #[.string r] w fun r w' => r = .returned (.tuple #[.agg (arr 4 x), .bool true]) ∧ Below w.heap.size w w'
  of2 : ∀ w, Calls Try.prog 15 #[.string s] w fun r w' => r = .returned (.tuple #[.agg (arr 4 y), .bool true]) ∧ Below w.heap.size w w'
  of3 : ∀ w, Calls Try.prog 15 #[.string t] w fun r w' => r = .returned (.tuple #[.agg (arr 4 z), .bool true]) ∧ Below w.heap.size w w'
  add1 : ∀ w, Calls Try.prog 16 #[.agg (arr 4 x), .agg (arr 4 y)] w fun r w' => r = .returned (.agg (arr 4 ab)) ∧ Below w.heap.size w w'
  add2 : ∀ w, Calls Try.prog 16 #[.agg (arr 4 y), .agg (arr 4 x)] w fun r w' => r = .returned (.agg (arr 4 ba)) ∧ Below w.heap.size w w'
  mul1 : ∀ w, Calls Try.prog 18 #[.agg (arr 4 x), .agg (arr 4 y)] w fun r w' => r = .returned (.agg (arr 4 mab)) ∧ Below w.heap.size w w'
  mul2 : ∀ w, Calls Try.prog 18 #[.agg (arr 4 y), .agg (arr 4 x)] w fun r w' => r = .returned (.agg (arr 4 mba)) ∧ Below w.heap.size w w'
  add3 : ∀ w, Calls Try.prog 16 #[.agg (arr 4 ab), .agg (arr 4 z)] w fun r w' => r = .returned (.agg (arr 4 abC)) ∧ Below w.heap.size w w'
  add4 : ∀ w, Calls Try.prog 16 #[.agg (arr 4 y), .agg (arr 4 z)] w fun r w' => r = .returned (.agg (arr 4 bc)) ∧ Below w.heap.size w w'
  add5 : ∀ w, Calls Try.prog 16 #[.agg (arr 4 x), .agg (arr 4 bc)] w fun r w' => r = .returned (.agg (arr 4 aBC)) ∧ Below w.heap.size w w'
  mul3 : ∀ w, Calls Try.prog 18 #[.agg (arr 4 mab), .agg (arr 4 z)] w fun r w' => r = .returned (.agg (arr 4 mabC)) ∧ Below w.heap.size w w'
  mul4 : ∀ w, Calls Try.prog 18 #[.agg (arr 4 y), .agg (arr 4 z)] w fun r w' => r = .returned (.agg (arr 4 mbc)) ∧ Below w.heap.size w w'
  mul5 : ∀ w, Calls Try.prog 18 #[.agg (arr 4 x), .agg (arr 4 mbc)] w fun r w' => r = .returned (.agg (arr 4 aMbc)) ∧ Below w.heap.size w w'
  mul6 : ∀ w, Calls Try.prog 18 #[.agg (arr 4 x), .agg (arr 4 bc)] w fun r w' => r = .returned (.agg (arr 4 aDbc)) ∧ Below w.heap.size w w'
  mul7 : ∀ w, Calls Try.prog 18 #[.agg (arr 4 x), .agg (arr 4 z)] w fun r w' => r = .returned (.agg (arr 4 mac)) ∧ Below w.heap.size w w'
  add6 : ∀ w, Calls Try.prog 16 #[.agg (arr 4 mab), .agg (arr 4 mac)] w fun r w' => r = .returned (.agg (arr 4 dsm)) ∧ Below w.heap.size w w'
  neg1 : ∀ w, Calls Try.prog 20 #[.agg (arr 4 x)] w fun r w' => r = .returned (.agg (arr 4 nx)) ∧ Below w.heap.size w w'
  add7 : ∀ w, Calls Try.prog 16 #[.agg (arr 4 x), .agg (arr 4 nx)] w fun r w' => r = .returned (.agg (arr 4 xnx)) ∧ Below w.heap.size w w'
  s1 : ∀ w, Calls Try.prog 12 #[.agg (arr 4 ab), .agg (arr 4 ba)] w fun r w' => r = .returned (.bool true) ∧ Below w.heap.size w w'
  s2 : ∀ w, Calls Try.prog 12 #[.agg (arr 4 mab), .agg (arr 4 mba)] w fun r w' => r = .returned (.bool true) ∧ Below w.heap.size w w'
  s3 : ∀ w, Calls Try.prog 12 #[.agg (arr 4 abC), .agg (arr 4 aBC)] w fun r w' => r = .returned (.bool true) ∧ Below w.heap.size w w'
  s4 : ∀ w, Calls Try.prog 12 #[.agg (arr 4 mabC), .agg (arr 4 aMbc)] w fun r w' => r = .returned (.bool true) ∧ Below w.heap.size w w'
  s5 : ∀ w, Calls Try.prog 12 #[.agg (arr 4 aDbc), .agg (arr 4 dsm)] w fun r w' => r = .returned (.bool true) ∧ Below w.heap.size w w'
  s7 : ∀ w, Calls Try.prog 12 #[.agg (arr 4 x), .agg (arr 4 x)] w fun r w' => r = .returned (.bool true) ∧ Below w.heap.size w w'
  s6 : ∀ w, Calls Try.prog 12 #[.agg (arr 4 xnx), .agg #[Value.int IntKind.u64 0, Value.int IntKind.u64 0, Value.int IntKind.u64 0, Value.int IntKind.u64 0]] w fun r w' => r = .returned (.bool true) ∧ Below w.heap.size w w'
  by1 : ∀ w, Calls Try.prog 22 #[.agg (arr 4 x)] w fun r w' => r = .returned (.string b) ∧ Below w.heap.size w w'
  bsz : b.size = 32
  c1 : ∀ w, Calls Try.prog 9 #[.string b] w fun r w' => r = .returned (.bool true) ∧ Below w.heap.size w w'
  c2 : ∀ w, Calls Try.prog 9 #[.string r] w fun r w' => r = .returned (.bool c) ∧ Below w.heap.size w w'
  ce : (b.toList == r.toList) = c
  d1 : ∀ w, Calls Try.prog 7 #[.string b] w fun r w' => r = .returned (.tuple #[.agg (arr 4 x), .int .i64 0]) ∧ Below w.heap.size w w'
  d2 : ∀ w, Calls Try.prog 7 #[.string (b ++ zS)] w fun r w' => r = .returned (.tuple #[.agg (arr 4 x), .int .i64 0]) ∧ Below w.heap.size w w'

set_option maxRecDepth 100000 in
set_option maxHeartbeats 8000000 in
theorem laws_gen (r s t b : ByteArray) (c : Bool) (x y z ab ba mab mba abC bc aBC mabC mbc aMbc aDbc mac dsm nx xnx : Nat → Int) (w : World) (F0 : LF r s t b c x y z ab ba mab mba abC bc aBC mabC mbc aMbc aDbc mac dsm nx xnx) :
    Calls Try.prog 5 #[.string r, .string s, .string t] w fun r w' => r = .returned (.bool true) ∧ Below w.heap.size w w' := by
  have F := hide F0
  clear F0
  go_enter Try.func5, Try.ntmps5
  go_wp2_with fail
  refine (F.out.of1 _).mono ?_
  rintro _ w1 ⟨rfl, O⟩
  have RC : Row (w1.alloc (.cells #[Value.int IntKind.u64 0, Value.int IntKind.u64 0, Value.int IntKind.u64 0, Value.int IntKind.u64 0] 27)) w1.heap.size 27 4 (fun _ => 0) := Row.new w1 27 4 (fun _ => 0)
  have BB := below_setCells (g := w1.heap.size) (Nat.le_refl _) (arr 4 (x)).toList 0 (new_below w1 (.cells #[Value.int IntKind.u64 0, Value.int IntKind.u64 0, Value.int IntKind.u64 0, Value.int IntKind.u64 0] 27))
  have RA := hide (RC.setAll (x))
  have OO := hide (O.trans (BB.mono O.size))
  clear O BB 
  go_wp2_with (refine wpList_store_mid rfl 27 _ _ rfl w1.heap.size 0 (arr 4 (x)) rfl rfl ?th1 (info27 _) (arr_one _ _) ?_)
  case th1 => rw [arr_size]; exact RC.there
  replace RC := RA.out
  have O := OO.out
  clear RA OO 
  generalize w1.heap.size = ga at *
  generalize (w1.alloc (.cells #[Value.int IntKind.u64 0, Value.int IntKind.u64 0, Value.int IntKind.u64 0, Value.int IntKind.u64 0] 27)).setCells ga 0 (arr 4 (x)).toList = W1 at *
  refine (F.out.of2 _).mono ?_
  rintro _ w2 ⟨rfl, hb⟩
  replace RC := RC.keep hb
  replace O := O.trans (hb.mono O.size)
  clear hb
  have RD : Row (w2.alloc (.cells #[Value.int IntKind.u64 0, Value.int IntKind.u64 0, Value.int IntKind.u64 0, Value.int IntKind.u64 0] 27)) w2.heap.size 27 4 (fun _ => 0) := Row.new w2 27 4 (fun _ => 0)
  have BB := below_setCells (g := w2.heap.size) (Nat.le_refl _) (arr 4 (y)).toList 0 (new_below w2 (.cells #[Value.int IntKind.u64 0, Value.int IntKind.u64 0, Value.int IntKind.u64 0, Value.int IntKind.u64 0] 27))
  have RA := hide (RD.setAll (y))
  have RC' := hide (RC.keep BB)
  have OO := hide (O.trans (BB.mono O.size))
  clear O BB RC
  go_wp2_with (refine wpList_store_mid rfl 27 _ _ rfl w2.heap.size 0 (arr 4 (y)) rfl rfl ?th2 (info27 _) (arr_one _ _) ?_)
  case th2 => rw [arr_size]; exact RD.there
  replace RD := RA.out
  have O := OO.out
  have RC := RC'.out
  clear RA OO RC'
  generalize w2.heap.size = gb at *
  generalize (w2.alloc (.cells #[Value.int IntKind.u64 0, Value.int IntKind.u64 0, Value.int IntKind.u64 0, Value.int IntKind.u64 0] 27)).setCells gb 0 (arr 4 (y)).toList = W2 at *
  refine (F.out.of3 _).mono ?_
  rintro _ w3 ⟨rfl, hb⟩
  replace RC := RC.keep hb
  replace RD := RD.keep hb
  replace O := O.trans (hb.mono O.size)
  clear hb
  have RE : Row (w3.alloc (.cells #[Value.int IntKind.u64 0, Value.int IntKind.u64 0, Value.int IntKind.u64 0, Value.int IntKind.u64 0] 27)) w3.heap.size 27 4 (fun _ => 0) := Row.new w3 27 4 (fun _ => 0)
  have BB := below_setCells (g := w3.heap.size) (Nat.le_refl _) (arr 4 (z)).toList 0 (new_below w3 (.cells #[Value.int IntKind.u64 0, Value.int IntKind.u64 0, Value.int IntKind.u64 0, Value.int IntKind.u64 0] 27))
  have RA := hide (RE.setAll (z))
  have RC' := hide (RC.keep BB)
  have RD' := hide (RD.keep BB)
  have OO := hide (O.trans (BB.mono O.size))
  clear O BB RC RD
  go_wp2_with (refine wpList_store_mid rfl 27 _ _ rfl w3.heap.size 0 (arr 4 (z)) rfl rfl ?th3 (info27 _) (arr_one _ _) ?_)
  case th3 => rw [arr_size]; exact RE.there
  replace RE := RA.out
  have O := OO.out
  have RC := RC'.out
  have RD := RD'.out
  clear RA OO RC' RD'
  generalize w3.heap.size = gc at *
  generalize (w3.alloc (.cells #[Value.int IntKind.u64 0, Value.int IntKind.u64 0, Value.int IntKind.u64 0, Value.int IntKind.u64 0] 27)).setCells gc 0 (arr 4 (z)).toList = W3 at *
  try rw [show ∀ (a : Act) (v : Value), a.put none v = a from fun _ _ => rfl]
  have hne := KW.some W3
  have HA : Hid (∀ w', (∃ s : KW W3, w' = s.w) → w'.heap[ga]? = some (.cells (arr 4 x) 27 (0, 0))) := hide (by rintro _ ⟨s, rfl⟩; exact RC.keep s.keep)
  have HB : Hid (∀ w', (∃ s : KW W3, w' = s.w) → w'.heap[gb]? = some (.cells (arr 4 y) 27 (0, 0))) := hide (by rintro _ ⟨s, rfl⟩; exact RD.keep s.keep)
  have HC : Hid (∀ w', (∃ s : KW W3, w' = s.w) → w'.heap[gc]? = some (.cells (arr 4 z) 27 (0, 0))) := hide (by rintro _ ⟨s, rfl⟩; exact RE.keep s.keep)
  have KK := hide (And.intro RC O)
  clear RC RD RE O
  refine wp_region_keep (by kernel_rfl) (by kernel_rfl) ?_
  go_big_quiet_want
  refine quiet_load_row 27 _ rfl ga rfl 27 (arr 4 x) (0, 0) _ HA.out Try.underlying27 rfl (info27 _) ?_
  go_simp
  go_big_quiet_on
  go_big_quiet_want
  refine quiet_load_row 27 _ rfl gb rfl 27 (arr 4 y) (0, 0) _ HB.out Try.underlying27 rfl (info27 _) ?_
  go_simp
  go_big_quiet_on
  go_big_quiet_step ((exact keep_of (F.out.add1 _)))
  go_big_quiet_want
  refine quiet_load_row 27 _ rfl gb rfl 27 (arr 4 y) (0, 0) _ HB.out Try.underlying27 rfl (info27 _) ?_
  go_simp
  go_big_quiet_on
  go_big_quiet_want
  refine quiet_load_row 27 _ rfl ga rfl 27 (arr 4 x) (0, 0) _ HA.out Try.underlying27 rfl (info27 _) ?_
  go_simp
  go_big_quiet_on
  go_big_quiet_step ((exact keep_of (F.out.add2 _)))
  go_big_quiet_step ((exact keep_of (F.out.s1 _)))
  go_big_quiet_step (fail)
  go_big_quiet_step (fail)
  go_big_quiet_want
  refine quiet_load_row 27 _ rfl ga rfl 27 (arr 4 x) (0, 0) _ HA.out Try.underlying27 rfl (info27 _) ?_
  go_simp
  go_big_quiet_on
  go_big_quiet_want
  refine quiet_load_row 27 _ rfl gb rfl 27 (arr 4 y) (0, 0) _ HB.out Try.underlying27 rfl (info27 _) ?_
  go_simp
  go_big_quiet_on
  go_big_quiet_step ((exact keep_of (F.out.mul1 _)))
  go_big_quiet_want
  refine quiet_load_row 27 _ rfl gb rfl 27 (arr 4 y) (0, 0) _ HB.out Try.underlying27 rfl (info27 _) ?_
  go_simp
  go_big_quiet_on
  go_big_quiet_want
  refine quiet_load_row 27 _ rfl ga rfl 27 (arr 4 x) (0, 0) _ HA.out Try.underlying27 rfl (info27 _) ?_
  go_simp
  go_big_quiet_on
  go_big_quiet_step ((exact keep_of (F.out.mul2 _)))
  go_big_quiet_step ((exact keep_of (F.out.s2 _)))
  go_big_quiet_step (fail)
  go_big_quiet_step (fail)
  go_big_quiet_step (fail)
  go_big_quiet_want
  refine quiet_load_row 27 _ rfl ga rfl 27 (arr 4 x) (0, 0) _ HA.out Try.underlying27 rfl (info27 _) ?_
  go_simp
  go_big_quiet_on
  go_big_quiet_want
  refine quiet_load_row 27 _ rfl gb rfl 27 (arr 4 y) (0, 0) _ HB.out Try.underlying27 rfl (info27 _) ?_
  go_simp
  go_big_quiet_on
  go_big_quiet_step ((exact keep_of (F.out.add1 _)))
  go_big_quiet_want
  refine quiet_load_row 27 _ rfl gc rfl 27 (arr 4 z) (0, 0) _ HC.out Try.underlying27 rfl (info27 _) ?_
  go_simp
  go_big_quiet_on
  go_big_quiet_step ((exact keep_of (F.out.add3 _)))
  go_big_quiet_want
  refine quiet_load_row 27 _ rfl ga rfl 27 (arr 4 x) (0, 0) _ HA.out Try.underlying27 rfl (info27 _) ?_
  go_simp
  go_big_quiet_on
  go_big_quiet_want
  refine quiet_load_row 27 _ rfl gb rfl 27 (arr 4 y) (0, 0) _ HB.out Try.underlying27 rfl (info27 _) ?_
  go_simp
  go_big_quiet_on
  go_big_quiet_want
  refine quiet_load_row 27 _ rfl gc rfl 27 (arr 4 z) (0, 0) _ HC.out Try.underlying27 rfl (info27 _) ?_
  go_simp
  go_big_quiet_on
  go_big_quiet_step ((exact keep_of (F.out.add4 _)))
  go_big_quiet_step ((exact keep_of (F.out.add5 _)))
  go_big_quiet_step ((exact keep_of (F.out.s3 _)))
  go_big_quiet_step (fail)
  go_big_quiet_step (fail)
  go_big_quiet_step (fail)
  go_big_quiet_want
  refine quiet_load_row 27 _ rfl ga rfl 27 (arr 4 x) (0, 0) _ HA.out Try.underlying27 rfl (info27 _) ?_
  go_simp
  go_big_quiet_on
  go_big_quiet_want
  refine quiet_load_row 27 _ rfl gb rfl 27 (arr 4 y) (0, 0) _ HB.out Try.underlying27 rfl (info27 _) ?_
  go_simp
  go_big_quiet_on
  go_big_quiet_step ((exact keep_of (F.out.mul1 _)))
  go_big_quiet_want
  refine quiet_load_row 27 _ rfl gc rfl 27 (arr 4 z) (0, 0) _ HC.out Try.underlying27 rfl (info27 _) ?_
  go_simp
  go_big_quiet_on
  go_big_quiet_step ((exact keep_of (F.out.mul3 _)))
  go_big_quiet_want
  refine quiet_load_row 27 _ rfl ga rfl 27 (arr 4 x) (0, 0) _ HA.out Try.underlying27 rfl (info27 _) ?_
  go_simp
  go_big_quiet_on
  go_big_quiet_want
  refine quiet_load_row 27 _ rfl gb rfl 27 (arr 4 y) (0, 0) _ HB.out Try.underlying27 rfl (info27 _) ?_
  go_simp
  go_big_quiet_on
  go_big_quiet_want
  refine quiet_load_row 27 _ rfl gc rfl 27 (arr 4 z) (0, 0) _ HC.out Try.underlying27 rfl (info27 _) ?_
  go_simp
  go_big_quiet_on
  go_big_quiet_step ((exact keep_of (F.out.mul4 _)))
  go_big_quiet_step ((exact keep_of (F.out.mul5 _)))
  go_big_quiet_step ((exact keep_of (F.out.s4 _)))
  go_big_quiet_step (fail)
  go_big_quiet_step (fail)
  go_big_quiet_step (fail)
  go_big_quiet_want
  refine quiet_load_row 27 _ rfl ga rfl 27 (arr 4 x) (0, 0) _ HA.out Try.underlying27 rfl (info27 _) ?_
  go_simp
  go_big_quiet_on
  go_big_quiet_want
  refine quiet_load_row 27 _ rfl gb rfl 27 (arr 4 y) (0, 0) _ HB.out Try.underlying27 rfl (info27 _) ?_
  go_simp
  go_big_quiet_on
  go_big_quiet_want
  refine quiet_load_row 27 _ rfl gc rfl 27 (arr 4 z) (0, 0) _ HC.out Try.underlying27 rfl (info27 _) ?_
  go_simp
  go_big_quiet_on
  go_big_quiet_step ((exact keep_of (F.out.add4 _)))
  go_big_quiet_step ((exact keep_of (F.out.mul6 _)))
  go_big_quiet_want
  refine quiet_load_row 27 _ rfl ga rfl 27 (arr 4 x) (0, 0) _ HA.out Try.underlying27 rfl (info27 _) ?_
  go_simp
  go_big_quiet_on
  go_big_quiet_want
  refine quiet_load_row 27 _ rfl gb rfl 27 (arr 4 y) (0, 0) _ HB.out Try.underlying27 rfl (info27 _) ?_
  go_simp
  go_big_quiet_on
  go_big_quiet_step ((exact keep_of (F.out.mul1 _)))
  go_big_quiet_want
  refine quiet_load_row 27 _ rfl ga rfl 27 (arr 4 x) (0, 0) _ HA.out Try.underlying27 rfl (info27 _) ?_
  go_simp
  go_big_quiet_on
  go_big_quiet_want
  refine quiet_load_row 27 _ rfl gc rfl 27 (arr 4 z) (0, 0) _ HC.out Try.underlying27 rfl (info27 _) ?_
  go_simp
  go_big_quiet_on
  go_big_quiet_step ((exact keep_of (F.out.mul7 _)))
  go_big_quiet_step ((exact keep_of (F.out.add6 _)))
  go_big_quiet_step ((exact keep_of (F.out.s5 _)))
  go_big_quiet_step (fail)
  go_big_quiet_step (fail)
  refine wpQuiet_nil ?_
  intro s1
  obtain ⟨RC, O⟩ := KK.out
  replace RC := RC.keep s1.keep
  replace O := O.trans (s1.keep.mono O.size)
  clear KK HA HB HC hne
  generalize s1.w = W8 at *
  go_wp2_with fail
  have hne := KW.some W8
  have HA : Hid (∀ w', (∃ s : KW W8, w' = s.w) → w'.heap[ga]? = some (.cells (arr 4 x) 27 (0, 0))) := hide (by rintro _ ⟨s, rfl⟩; exact RC.keep s.keep)
  have KK := hide (And.intro RC O)
  clear RC O
  have hcc : (c != c) = false := by simp
  have hce := F.out.ce
  refine wp_region_keep (by kernel_rfl) (by kernel_rfl) ?_
  go_big_quiet_want
  refine quiet_load_row 27 _ rfl ga rfl 27 (arr 4 x) (0, 0) _ HA.out Try.underlying27 rfl (info27 _) ?_
  go_simp
  go_big_quiet_on
  go_big_quiet_want
  refine quiet_load_row 27 _ rfl ga rfl 27 (arr 4 x) (0, 0) _ HA.out Try.underlying27 rfl (info27 _) ?_
  go_simp
  go_big_quiet_on
  go_big_quiet_step ((exact keep_of (F.out.neg1 _)))
  go_big_quiet_step ((exact keep_of (F.out.add7 _)))
  go_big_quiet_step (fail)
  go_big_quiet_step ((exact keep_of (F.out.s6 _)))
  go_big_quiet_step (fail)
  go_big_quiet_step (fail)
  go_big_quiet_want
  refine quiet_load_row 27 _ rfl ga rfl 27 (arr 4 x) (0, 0) _ HA.out Try.underlying27 rfl (info27 _) ?_
  go_simp
  go_big_quiet_on
  go_big_quiet_step ((exact keep_of (F.out.by1 _)))
  go_big_quiet_step ((exact keep_of (F.out.c1 _)))
  go_big_quiet_step (fail)
  go_big_quiet_step (fail)
  go_big_quiet_step (fail)
  go_big_quiet_step (fail)
  go_big_quiet_step ((exact keep_of (F.out.c2 _)))
  go_big_quiet_want
  refine quiet_load_row 27 _ rfl ga rfl 27 (arr 4 x) (0, 0) _ HA.out Try.underlying27 rfl (info27 _) ?_
  go_simp
  go_big_quiet_on
  go_big_quiet_step ((exact keep_of (F.out.by1 _)))
  go_big_quiet_step (fail)
  go_big_quiet_step (fail)
  go_big_quiet_step (fail)
  go_big_quiet_step (fail)
  refine wpQuiet_nil ?_
  intro s2
  obtain ⟨RC, O⟩ := KK.out
  replace RC := RC.keep s2.keep
  replace O := O.trans (s2.keep.mono O.size)
  clear KK HA hne hcc hce
  generalize s2.w = W9 at *
  go_wp2_with (refine wpList_load_row rfl 27 _ rfl ga rfl 27 (arr 4 x) (0, 0) _ ?hgx Try.underlying27 rfl (info27 _) ?_)
  case hgx => exact RC
  refine (F.out.by1 _).mono ?_
  rintro _ w4 ⟨rfl, hb⟩
  replace RC := RC.keep hb
  replace O := O.trans (hb.mono O.size)
  clear hb
  go_wp2_with fail
  refine (F.out.d1 _).mono ?_
  rintro _ w5 ⟨rfl, hb⟩
  replace RC := RC.keep hb
  replace O := O.trans (hb.mono O.size)
  clear hb
  have RD : Row (w5.alloc (.cells #[Value.int IntKind.u64 0, Value.int IntKind.u64 0, Value.int IntKind.u64 0, Value.int IntKind.u64 0] 27)) w5.heap.size 27 4 (fun _ => 0) := Row.new w5 27 4 (fun _ => 0)
  have BB := below_setCells (g := w5.heap.size) (Nat.le_refl _) (arr 4 (x)).toList 0 (new_below w5 (.cells #[Value.int IntKind.u64 0, Value.int IntKind.u64 0, Value.int IntKind.u64 0, Value.int IntKind.u64 0] 27))
  have RA := hide (RD.setAll (x))
  have RC' := hide (RC.keep BB)
  have OO := hide (O.trans (BB.mono O.size))
  clear O BB RC
  go_wp2_with (refine wpList_store_mid rfl 27 _ _ rfl w5.heap.size 0 (arr 4 (x)) rfl rfl ?th5 (info27 _) (arr_one _ _) ?_)
  case th5 => rw [arr_size]; exact RD.there
  replace RD := RA.out
  have O := OO.out
  have RC := RC'.out
  clear RA OO RC'
  generalize w5.heap.size = gd at *
  generalize (w5.alloc (.cells #[Value.int IntKind.u64 0, Value.int IntKind.u64 0, Value.int IntKind.u64 0, Value.int IntKind.u64 0] 27)).setCells gd 0 (arr 4 (x)).toList = W5 at *
  try rw [show ∀ (a : Act) (v : Value), a.put none v = a from fun _ _ => rfl]
  have gl1 := RC.lt
  have gl2 := RD.lt
  refine region_cut (fun a0 a' w' => ∃ gm ge : Nat, a' = ((((((((((a0.put (some 134) (.agg (arr 4 x))).put (some 135) (.string b)).put (some 136) (.slice (some ⟨gm, 0, none⟩) 32 32)).put (some 137) (.string zS)).put (some 138) (.string (b ++ zS))).put (some 139) (.tuple #[.agg (arr 4 x), .int .i64 0])).put (some 133) (.tuple #[.agg (arr 4 x), .int .i64 0])).put (some 140) (.agg (arr 4 x))).put (some 141) (.int .i64 0)).put (some 15) (.pointer (some ⟨ge, 0, none⟩))).put (some 16) (.int .i64 0) ∧ Row w' ga 27 4 x ∧ Row w' gd 27 4 x ∧ Row w' ge 27 4 x ∧ Below w.heap.size w w') (by kernel_rfl) ?_ ?_
  · clear RC RD O gl1 gl2
    rintro _ w8 ⟨gm, ge, rfl, RC, RD, RE, O⟩
    go_simp
    go_wp2_with (first | (refine wpList_load_row_on rfl 27 _ rfl gd rfl 27 (arr 4 x) (0, 0) _ ?hgd Try.underlying27 rfl (info27 _) ?_) | (refine wpList_load_row_on rfl 27 _ rfl ga rfl 27 (arr 4 x) (0, 0) _ ?hga Try.underlying27 rfl (info27 _) ?_))
    case hgd => exact RD
    case hga => exact RC
    refine (F.out.s7 _).mono ?_
    rintro _ w9 ⟨rfl, hb⟩
    replace RC := RC.keep hb
    replace RE := RE.keep hb
    replace O := O.trans (hb.mono O.size)
    clear hb RD
    go_wp2_with (first | (refine wpList_load_row_on rfl 27 _ rfl ge rfl 27 (arr 4 x) (0, 0) _ ?hge Try.underlying27 rfl (info27 _) ?_) | (refine wpList_load_row_on rfl 27 _ rfl ga rfl 27 (arr 4 x) (0, 0) _ ?hgb Try.underlying27 rfl (info27 _) ?_))
    case hge => exact RE
    case hgb => exact RC
    refine (F.out.s7 _).mono ?_
    rintro _ w10 ⟨rfl, hb⟩
    replace O := O.trans (hb.mono O.size)
    clear hb RE RC
    go_wp2_with fail
    refine (alive_any _).mono ?_
    rintro _ w11 ⟨rfl, hb⟩
    replace O := O.trans (hb.mono O.size)
    clear hb F
    go_wp2
    go_ret
    exact ⟨rfl, O⟩
  · intro hrest
    replace RC := rowD RC
    replace RD := rowD RD
    replace O := O.drew
    clear gl1 gl2
    generalize W5.drew = W0 at *
    refine wpAny_ready (rs := [0, 2, 9]) (by kernel_rfl) (by simp) ?_
    refine ready_load rfl rfl 27 _ rfl ga (by kernel_rfl) 27 (arr 4 x) (0, 0) _ RC Try.underlying27 rfl (info27 _) ?_ ?_
    · skip
      refine wpAny_ready (rs := [1, 2, 9]) (by kernel_rfl) (by simp) ?_
      refine ready_call 22 #[.agg (arr 4 x)] rfl rfl (by kernel_rfl) ?_ ?_
      · refine (F.out.by1 _).mono ?_
        rintro _ w102 ⟨rfl, hb2⟩
        refine ⟨_, rfl, ?_⟩
        replace RC := RC.keep hb2
        replace RD := RD.keep hb2
        replace O := O.trans (hb2.mono O.size)
        clear hb2
        refine wpAny_ready (rs := [2, 9]) (by kernel_rfl) (by simp) ?_
        refine ready_new (fun g => .slice (some ⟨g, 0, none⟩) 32 32) (.cells #[Value.int IntKind.u8 0, Value.int IntKind.u8 0, Value.int IntKind.u8 0, Value.int IntKind.u8 0, Value.int IntKind.u8 0, Value.int IntKind.u8 0, Value.int IntKind.u8 0, Value.int IntKind.u8 0, Value.int IntKind.u8 0, Value.int IntKind.u8 0, Value.int IntKind.u8 0, Value.int IntKind.u8 0, Value.int IntKind.u8 0, Value.int IntKind.u8 0, Value.int IntKind.u8 0, Value.int IntKind.u8 0, Value.int IntKind.u8 0, Value.int IntKind.u8 0, Value.int IntKind.u8 0, Value.int IntKind.u8 0, Value.int IntKind.u8 0, Value.int IntKind.u8 0, Value.int IntKind.u8 0, Value.int IntKind.u8 0, Value.int IntKind.u8 0, Value.int IntKind.u8 0, Value.int IntKind.u8 0, Value.int IntKind.u8 0, Value.int IntKind.u8 0, Value.int IntKind.u8 0, Value.int IntKind.u8 0, Value.int IntKind.u8 0] 5) rfl rfl (by kernel_rfl) ?_ ?_
        · intro gm w103 HZ _ hb3
          replace HZ : Z32 w103 gm := HZ
          replace RC := RC.keep hb3
          replace RD := RD.keep hb3
          replace O := O.trans (hb3.mono O.size)
          clear hb3
          refine wpAny_ready (rs := [3, 9]) (by kernel_rfl) (by simp) ?_
          refine ready_to (.string zS) _ rfl rfl (run_conv _ rfl (by kernel_rfl) HZ) ?_ ?_
          · skip
            refine wpAny_ready (rs := [4, 9]) (by kernel_rfl) (by simp) ?_
            refine ready_to (.string (b ++ zS)) _ rfl rfl (run_cat b zS _ _ _ rfl (by kernel_rfl) (by kernel_rfl) F.out.bsz zS_size) ?_ ?_
            · skip
              refine wpAny_ready (rs := [5, 9]) (by kernel_rfl) (by simp) ?_
              refine ready_call 7 #[.string (b ++ zS)] rfl rfl (by kernel_rfl) ?_ ?_
              · refine (F.out.d2 _).mono ?_
                rintro _ w106 ⟨rfl, hb6⟩
                refine ⟨_, rfl, ?_⟩
                replace RC := RC.keep hb6
                replace RD := RD.keep hb6
                replace HZ := HZ.keep hb6
                replace O := O.trans (hb6.mono O.size)
                clear hb6
                refine wpAny_take (i := 6) (v := .tuple #[.agg (arr 4 x), .int .i64 0]) rfl (by kernel_rfl) (by kernel_rfl) (by kernel_rfl) (fun _ _ _ h => h) (Or.inl ⟨by rfl, fun _ => by kernel_rfl⟩) ?_
                refine wpAny_take (i := 7) (v := .agg (arr 4 x)) rfl (by kernel_rfl) (by kernel_rfl) (by kernel_rfl) (fun _ _ _ h => h) (Or.inl ⟨by rfl, fun _ => by kernel_rfl⟩) ?_
                refine wpAny_take (i := 8) (v := .int .i64 0) rfl (by kernel_rfl) (by kernel_rfl) (by kernel_rfl) (fun _ _ _ h => h) (Or.inl ⟨by rfl, fun _ => by kernel_rfl⟩) ?_
                refine wpAny_ready (rs := [9]) (by kernel_rfl) (by simp) ?_
                refine ready_new (fun g => .pointer (some ⟨g, 0, none⟩)) (.cells #[Value.int IntKind.u64 0, Value.int IntKind.u64 0, Value.int IntKind.u64 0, Value.int IntKind.u64 0] 27) rfl rfl (by kernel_rfl) ?_ ?_
                · intro ge w107 RE n0 hb7
                  replace RE : Row w107 ge 27 4 (fun _ => 0) := RE
                  have n1 := RC.lt
                  have n2 := RD.lt
                  have n3 := O.size
                  replace RC := RC.keep hb7
                  replace RD := RD.keep hb7
                  replace HZ := HZ.keep hb7
                  replace O := O.trans (hb7.mono O.size)
                  clear hb7
                  refine wpAny_ready (rs := [10]) (by kernel_rfl) (by simp) ?_
                  refine ready_put (f' := x) RE rfl rfl 27 _ _ rfl (by kernel_rfl) (by kernel_rfl) (info27 _) ?_ ?_
                  · intro w108 RG ho hu
                    replace RC := RC.at_ (ho ga (by omega))
                    replace RD := RD.at_ (ho gd (by omega))
                    replace O := hu _ _ (by omega) O
                    clear ho hu
                    refine wpAny_ready (rs := [11]) (by kernel_rfl) (by simp) ?_
                    refine ready_to (.int .i64 0) w108 rfl rfl (by kernel_rfl) ?_ ?_
                    · skip
                      exact wpAny_done (by kernel_rfl) (hrest _ _ ⟨gm, ge, by kernel_rfl, RC, RD, RG, O⟩) _
                    exact AllReady.nil
                  exact AllReady.nil
                exact AllReady.nil
              refine ready_new (fun g => .pointer (some ⟨g, 0, none⟩)) (.cells #[Value.int IntKind.u64 0, Value.int IntKind.u64 0, Value.int IntKind.u64 0, Value.int IntKind.u64 0] 27) rfl rfl (by kernel_rfl) ?_ ?_
              · intro ge w110 RE n0 hb10
                replace RE : Row w110 ge 27 4 (fun _ => 0) := RE
                have n1 := RC.lt
                have n2 := RD.lt
                have n3 := O.size
                replace RC := RC.keep hb10
                replace RD := RD.keep hb10
                replace HZ := HZ.keep hb10
                replace O := O.trans (hb10.mono O.size)
                clear hb10
                refine wpAny_ready (rs := [5]) (by kernel_rfl) (by simp) ?_
                refine ready_call 7 #[.string (b ++ zS)] rfl rfl (by kernel_rfl) ?_ ?_
                · refine (F.out.d2 _).mono ?_
                  rintro _ w111 ⟨rfl, hb11⟩
                  refine ⟨_, rfl, ?_⟩
                  replace RC := RC.keep hb11
                  replace RD := RD.keep hb11
                  replace HZ := HZ.keep hb11
                  replace RE := RE.keep hb11
                  replace O := O.trans (hb11.mono O.size)
                  clear hb11
                  refine wpAny_take (i := 6) (v := .tuple #[.agg (arr 4 x), .int .i64 0]) rfl (by kernel_rfl) (by kernel_rfl) (by kernel_rfl) (fun _ _ _ h => h) (Or.inl ⟨by rfl, fun _ => by kernel_rfl⟩) ?_
                  refine wpAny_take (i := 7) (v := .agg (arr 4 x)) rfl (by kernel_rfl) (by kernel_rfl) (by kernel_rfl) (fun _ _ _ h => h) (Or.inl ⟨by rfl, fun _ => by kernel_rfl⟩) ?_
                  refine wpAny_take (i := 8) (v := .int .i64 0) rfl (by kernel_rfl) (by kernel_rfl) (by kernel_rfl) (fun _ _ _ h => h) (Or.inl ⟨by rfl, fun _ => by kernel_rfl⟩) ?_
                  refine wpAny_ready (rs := [10]) (by kernel_rfl) (by simp) ?_
                  refine ready_put (f' := x) RE rfl rfl 27 _ _ rfl (by kernel_rfl) (by kernel_rfl) (info27 _) ?_ ?_
                  · intro w112 RG ho hu
                    replace RC := RC.at_ (ho ga (by omega))
                    replace RD := RD.at_ (ho gd (by omega))
                    replace O := hu _ _ (by omega) O
                    clear ho hu
                    refine wpAny_ready (rs := [11]) (by kernel_rfl) (by simp) ?_
                    refine ready_to (.int .i64 0) w112 rfl rfl (by kernel_rfl) ?_ ?_
                    · skip
                      exact wpAny_done (by kernel_rfl) (hrest _ _ ⟨gm, ge, by kernel_rfl, RC, RD, RG, O⟩) _
                    exact AllReady.nil
                  exact AllReady.nil
                exact AllReady.nil
              exact AllReady.nil
            refine ready_new (fun g => .pointer (some ⟨g, 0, none⟩)) (.cells #[Value.int IntKind.u64 0, Value.int IntKind.u64 0, Value.int IntKind.u64 0, Value.int IntKind.u64 0] 27) rfl rfl (by kernel_rfl) ?_ ?_
            · intro ge w114 RE n0 hb14
              replace RE : Row w114 ge 27 4 (fun _ => 0) := RE
              have n1 := RC.lt
              have n2 := RD.lt
              have n3 := O.size
              replace RC := RC.keep hb14
              replace RD := RD.keep hb14
              replace HZ := HZ.keep hb14
              replace O := O.trans (hb14.mono O.size)
              clear hb14
              refine wpAny_ready (rs := [4]) (by kernel_rfl) (by simp) ?_
              refine ready_to (.string (b ++ zS)) _ rfl rfl (run_cat b zS _ _ _ rfl (by kernel_rfl) (by kernel_rfl) F.out.bsz zS_size) ?_ ?_
              · skip
                refine wpAny_ready (rs := [5]) (by kernel_rfl) (by simp) ?_
                refine ready_call 7 #[.string (b ++ zS)] rfl rfl (by kernel_rfl) ?_ ?_
                · refine (F.out.d2 _).mono ?_
                  rintro _ w116 ⟨rfl, hb16⟩
                  refine ⟨_, rfl, ?_⟩
                  replace RC := RC.keep hb16
                  replace RD := RD.keep hb16
                  replace HZ := HZ.keep hb16
                  replace RE := RE.keep hb16
                  replace O := O.trans (hb16.mono O.size)
                  clear hb16
                  refine wpAny_take (i := 6) (v := .tuple #[.agg (arr 4 x), .int .i64 0]) rfl (by kernel_rfl) (by kernel_rfl) (by kernel_rfl) (fun _ _ _ h => h) (Or.inl ⟨by rfl, fun _ => by kernel_rfl⟩) ?_
                  refine wpAny_take (i := 7) (v := .agg (arr 4 x)) rfl (by kernel_rfl) (by kernel_rfl) (by kernel_rfl) (fun _ _ _ h => h) (Or.inl ⟨by rfl, fun _ => by kernel_rfl⟩) ?_
                  refine wpAny_take (i := 8) (v := .int .i64 0) rfl (by kernel_rfl) (by kernel_rfl) (by kernel_rfl) (fun _ _ _ h => h) (Or.inl ⟨by rfl, fun _ => by kernel_rfl⟩) ?_
                  refine wpAny_ready (rs := [10]) (by kernel_rfl) (by simp) ?_
                  refine ready_put (f' := x) RE rfl rfl 27 _ _ rfl (by kernel_rfl) (by kernel_rfl) (info27 _) ?_ ?_
                  · intro w117 RG ho hu
                    replace RC := RC.at_ (ho ga (by omega))
                    replace RD := RD.at_ (ho gd (by omega))
                    replace O := hu _ _ (by omega) O
                    clear ho hu
                    refine wpAny_ready (rs := [11]) (by kernel_rfl) (by simp) ?_
                    refine ready_to (.int .i64 0) w117 rfl rfl (by kernel_rfl) ?_ ?_
                    · skip
                      exact wpAny_done (by kernel_rfl) (hrest _ _ ⟨gm, ge, by kernel_rfl, RC, RD, RG, O⟩) _
                    exact AllReady.nil
                  exact AllReady.nil
                exact AllReady.nil
              exact AllReady.nil
            exact AllReady.nil
          refine ready_new (fun g => .pointer (some ⟨g, 0, none⟩)) (.cells #[Value.int IntKind.u64 0, Value.int IntKind.u64 0, Value.int IntKind.u64 0, Value.int IntKind.u64 0] 27) rfl rfl (by kernel_rfl) ?_ ?_
          · intro ge w119 RE n0 hb19
            replace RE : Row w119 ge 27 4 (fun _ => 0) := RE
            have n1 := RC.lt
            have n2 := RD.lt
            have n3 := O.size
            replace RC := RC.keep hb19
            replace RD := RD.keep hb19
            replace HZ := HZ.keep hb19
            replace O := O.trans (hb19.mono O.size)
            clear hb19
            refine wpAny_ready (rs := [3]) (by kernel_rfl) (by simp) ?_
            refine ready_to (.string zS) _ rfl rfl (run_conv _ rfl (by kernel_rfl) HZ) ?_ ?_
            · skip
              refine wpAny_ready (rs := [4]) (by kernel_rfl) (by simp) ?_
              refine ready_to (.string (b ++ zS)) _ rfl rfl (run_cat b zS _ _ _ rfl (by kernel_rfl) (by kernel_rfl) F.out.bsz zS_size) ?_ ?_
              · skip
                refine wpAny_ready (rs := [5]) (by kernel_rfl) (by simp) ?_
                refine ready_call 7 #[.string (b ++ zS)] rfl rfl (by kernel_rfl) ?_ ?_
                · refine (F.out.d2 _).mono ?_
                  rintro _ w122 ⟨rfl, hb22⟩
                  refine ⟨_, rfl, ?_⟩
                  replace RC := RC.keep hb22
                  replace RD := RD.keep hb22
                  replace HZ := HZ.keep hb22
                  replace RE := RE.keep hb22
                  replace O := O.trans (hb22.mono O.size)
                  clear hb22
                  refine wpAny_take (i := 6) (v := .tuple #[.agg (arr 4 x), .int .i64 0]) rfl (by kernel_rfl) (by kernel_rfl) (by kernel_rfl) (fun _ _ _ h => h) (Or.inl ⟨by rfl, fun _ => by kernel_rfl⟩) ?_
                  refine wpAny_take (i := 7) (v := .agg (arr 4 x)) rfl (by kernel_rfl) (by kernel_rfl) (by kernel_rfl) (fun _ _ _ h => h) (Or.inl ⟨by rfl, fun _ => by kernel_rfl⟩) ?_
                  refine wpAny_take (i := 8) (v := .int .i64 0) rfl (by kernel_rfl) (by kernel_rfl) (by kernel_rfl) (fun _ _ _ h => h) (Or.inl ⟨by rfl, fun _ => by kernel_rfl⟩) ?_
                  refine wpAny_ready (rs := [10]) (by kernel_rfl) (by simp) ?_
                  refine ready_put (f' := x) RE rfl rfl 27 _ _ rfl (by kernel_rfl) (by kernel_rfl) (info27 _) ?_ ?_
                  · intro w123 RG ho hu
                    replace RC := RC.at_ (ho ga (by omega))
                    replace RD := RD.at_ (ho gd (by omega))
                    replace O := hu _ _ (by omega) O
                    clear ho hu
                    refine wpAny_ready (rs := [11]) (by kernel_rfl) (by simp) ?_
                    refine ready_to (.int .i64 0) w123 rfl rfl (by kernel_rfl) ?_ ?_
                    · skip
                      exact wpAny_done (by kernel_rfl) (hrest _ _ ⟨gm, ge, by kernel_rfl, RC, RD, RG, O⟩) _
                    exact AllReady.nil
                  exact AllReady.nil
                exact AllReady.nil
              exact AllReady.nil
            exact AllReady.nil
          exact AllReady.nil
        refine ready_new (fun g => .pointer (some ⟨g, 0, none⟩)) (.cells #[Value.int IntKind.u64 0, Value.int IntKind.u64 0, Value.int IntKind.u64 0, Value.int IntKind.u64 0] 27) rfl rfl (by kernel_rfl) ?_ ?_
        · intro ge w125 RE n0 hb25
          replace RE : Row w125 ge 27 4 (fun _ => 0) := RE
          have n1 := RC.lt
          have n2 := RD.lt
          have n3 := O.size
          replace RC := RC.keep hb25
          replace RD := RD.keep hb25
          replace O := O.trans (hb25.mono O.size)
          clear hb25
          refine wpAny_ready (rs := [2]) (by kernel_rfl) (by simp) ?_
          refine ready_new (fun g => .slice (some ⟨g, 0, none⟩) 32 32) (.cells #[Value.int IntKind.u8 0, Value.int IntKind.u8 0, Value.int IntKind.u8 0, Value.int IntKind.u8 0, Value.int IntKind.u8 0, Value.int IntKind.u8 0, Value.int IntKind.u8 0, Value.int IntKind.u8 0, Value.int IntKind.u8 0, Value.int IntKind.u8 0, Value.int IntKind.u8 0, Value.int IntKind.u8 0, Value.int IntKind.u8 0, Value.int IntKind.u8 0, Value.int IntKind.u8 0, Value.int IntKind.u8 0, Value.int IntKind.u8 0, Value.int IntKind.u8 0, Value.int IntKind.u8 0, Value.int IntKind.u8 0, Value.int IntKind.u8 0, Value.int IntKind.u8 0, Value.int IntKind.u8 0, Value.int IntKind.u8 0, Value.int IntKind.u8 0, Value.int IntKind.u8 0, Value.int IntKind.u8 0, Value.int IntKind.u8 0, Value.int IntKind.u8 0, Value.int IntKind.u8 0, Value.int IntKind.u8 0, Value.int IntKind.u8 0] 5) rfl rfl (by kernel_rfl) ?_ ?_
          · intro gm w126 HZ _ hb26
            replace HZ : Z32 w126 gm := HZ
            replace RC := RC.keep hb26
            replace RD := RD.keep hb26
            replace RE := RE.keep hb26
            replace O := O.trans (hb26.mono O.size)
            clear hb26
            refine wpAny_ready (rs := [3]) (by kernel_rfl) (by simp) ?_
            refine ready_to (.string zS) _ rfl rfl (run_conv _ rfl (by kernel_rfl) HZ) ?_ ?_
            · skip
              refine wpAny_ready (rs := [4]) (by kernel_rfl) (by simp) ?_
              refine ready_to (.string (b ++ zS)) _ rfl rfl (run_cat b zS _ _ _ rfl (by kernel_rfl) (by kernel_rfl) F.out.bsz zS_size) ?_ ?_
              · skip
                refine wpAny_ready (rs := [5]) (by kernel_rfl) (by simp) ?_
                refine ready_call 7 #[.string (b ++ zS)] rfl rfl (by kernel_rfl) ?_ ?_
                · refine (F.out.d2 _).mono ?_
                  rintro _ w129 ⟨rfl, hb29⟩
                  refine ⟨_, rfl, ?_⟩
                  replace RC := RC.keep hb29
                  replace RD := RD.keep hb29
                  replace HZ := HZ.keep hb29
                  replace RE := RE.keep hb29
                  replace O := O.trans (hb29.mono O.size)
                  clear hb29
                  refine wpAny_take (i := 6) (v := .tuple #[.agg (arr 4 x), .int .i64 0]) rfl (by kernel_rfl) (by kernel_rfl) (by kernel_rfl) (fun _ _ _ h => h) (Or.inl ⟨by rfl, fun _ => by kernel_rfl⟩) ?_
                  refine wpAny_take (i := 7) (v := .agg (arr 4 x)) rfl (by kernel_rfl) (by kernel_rfl) (by kernel_rfl) (fun _ _ _ h => h) (Or.inl ⟨by rfl, fun _ => by kernel_rfl⟩) ?_
                  refine wpAny_take (i := 8) (v := .int .i64 0) rfl (by kernel_rfl) (by kernel_rfl) (by kernel_rfl) (fun _ _ _ h => h) (Or.inl ⟨by rfl, fun _ => by kernel_rfl⟩) ?_
                  refine wpAny_ready (rs := [10]) (by kernel_rfl) (by simp) ?_
                  refine ready_put (f' := x) RE rfl rfl 27 _ _ rfl (by kernel_rfl) (by kernel_rfl) (info27 _) ?_ ?_
                  · intro w130 RG ho hu
                    replace RC := RC.at_ (ho ga (by omega))
                    replace RD := RD.at_ (ho gd (by omega))
                    replace O := hu _ _ (by omega) O
                    clear ho hu
                    refine wpAny_ready (rs := [11]) (by kernel_rfl) (by simp) ?_
                    refine ready_to (.int .i64 0) w130 rfl rfl (by kernel_rfl) ?_ ?_
                    · skip
                      exact wpAny_done (by kernel_rfl) (hrest _ _ ⟨gm, ge, by kernel_rfl, RC, RD, RG, O⟩) _
                    exact AllReady.nil
                  exact AllReady.nil
                exact AllReady.nil
              exact AllReady.nil
            exact AllReady.nil
          exact AllReady.nil
        exact AllReady.nil
      refine ready_new (fun g => .slice (some ⟨g, 0, none⟩) 32 32) (.cells #[Value.int IntKind.u8 0, Value.int IntKind.u8 0, Value.int IntKind.u8 0, Value.int IntKind.u8 0, Value.int IntKind.u8 0, Value.int IntKind.u8 0, Value.int IntKind.u8 0, Value.int IntKind.u8 0, Value.int IntKind.u8 0, Value.int IntKind.u8 0, Value.int IntKind.u8 0, Value.int IntKind.u8 0, Value.int IntKind.u8 0, Value.int IntKind.u8 0, Value.int IntKind.u8 0, Value.int IntKind.u8 0, Value.int IntKind.u8 0, Value.int IntKind.u8 0, Value.int IntKind.u8 0, Value.int IntKind.u8 0, Value.int IntKind.u8 0, Value.int IntKind.u8 0, Value.int IntKind.u8 0, Value.int IntKind.u8 0, Value.int IntKind.u8 0, Value.int IntKind.u8 0, Value.int IntKind.u8 0, Value.int IntKind.u8 0, Value.int IntKind.u8 0, Value.int IntKind.u8 0, Value.int IntKind.u8 0, Value.int IntKind.u8 0] 5) rfl rfl (by kernel_rfl) ?_ ?_
      · intro gm w132 HZ _ hb32
        replace HZ : Z32 w132 gm := HZ
        replace RC := RC.keep hb32
        replace RD := RD.keep hb32
        replace O := O.trans (hb32.mono O.size)
        clear hb32
        refine wpAny_ready (rs := [1, 3, 9]) (by kernel_rfl) (by simp) ?_
        refine ready_call 22 #[.agg (arr 4 x)] rfl rfl (by kernel_rfl) ?_ ?_
        · refine (F.out.by1 _).mono ?_
          rintro _ w133 ⟨rfl, hb33⟩
          refine ⟨_, rfl, ?_⟩
          replace RC := RC.keep hb33
          replace RD := RD.keep hb33
          replace HZ := HZ.keep hb33
          replace O := O.trans (hb33.mono O.size)
          clear hb33
          refine wpAny_ready (rs := [3, 9]) (by kernel_rfl) (by simp) ?_
          refine ready_to (.string zS) _ rfl rfl (run_conv _ rfl (by kernel_rfl) HZ) ?_ ?_
          · skip
            refine wpAny_ready (rs := [4, 9]) (by kernel_rfl) (by simp) ?_
            refine ready_to (.string (b ++ zS)) _ rfl rfl (run_cat b zS _ _ _ rfl (by kernel_rfl) (by kernel_rfl) F.out.bsz zS_size) ?_ ?_
            · skip
              refine wpAny_ready (rs := [5, 9]) (by kernel_rfl) (by simp) ?_
              refine ready_call 7 #[.string (b ++ zS)] rfl rfl (by kernel_rfl) ?_ ?_
              · refine (F.out.d2 _).mono ?_
                rintro _ w136 ⟨rfl, hb36⟩
                refine ⟨_, rfl, ?_⟩
                replace RC := RC.keep hb36
                replace RD := RD.keep hb36
                replace HZ := HZ.keep hb36
                replace O := O.trans (hb36.mono O.size)
                clear hb36
                refine wpAny_take (i := 6) (v := .tuple #[.agg (arr 4 x), .int .i64 0]) rfl (by kernel_rfl) (by kernel_rfl) (by kernel_rfl) (fun _ _ _ h => h) (Or.inl ⟨by rfl, fun _ => by kernel_rfl⟩) ?_
                refine wpAny_take (i := 7) (v := .agg (arr 4 x)) rfl (by kernel_rfl) (by kernel_rfl) (by kernel_rfl) (fun _ _ _ h => h) (Or.inl ⟨by rfl, fun _ => by kernel_rfl⟩) ?_
                refine wpAny_take (i := 8) (v := .int .i64 0) rfl (by kernel_rfl) (by kernel_rfl) (by kernel_rfl) (fun _ _ _ h => h) (Or.inl ⟨by rfl, fun _ => by kernel_rfl⟩) ?_
                refine wpAny_ready (rs := [9]) (by kernel_rfl) (by simp) ?_
                refine ready_new (fun g => .pointer (some ⟨g, 0, none⟩)) (.cells #[Value.int IntKind.u64 0, Value.int IntKind.u64 0, Value.int IntKind.u64 0, Value.int IntKind.u64 0] 27) rfl rfl (by kernel_rfl) ?_ ?_
                · intro ge w137 RE n0 hb37
                  replace RE : Row w137 ge 27 4 (fun _ => 0) := RE
                  have n1 := RC.lt
                  have n2 := RD.lt
                  have n3 := O.size
                  replace RC := RC.keep hb37
                  replace RD := RD.keep hb37
                  replace HZ := HZ.keep hb37
                  replace O := O.trans (hb37.mono O.size)
                  clear hb37
                  refine wpAny_ready (rs := [10]) (by kernel_rfl) (by simp) ?_
                  refine ready_put (f' := x) RE rfl rfl 27 _ _ rfl (by kernel_rfl) (by kernel_rfl) (info27 _) ?_ ?_
                  · intro w138 RG ho hu
                    replace RC := RC.at_ (ho ga (by omega))
                    replace RD := RD.at_ (ho gd (by omega))
                    replace O := hu _ _ (by omega) O
                    clear ho hu
                    refine wpAny_ready (rs := [11]) (by kernel_rfl) (by simp) ?_
                    refine ready_to (.int .i64 0) w138 rfl rfl (by kernel_rfl) ?_ ?_
                    · skip
                      exact wpAny_done (by kernel_rfl) (hrest _ _ ⟨gm, ge, by kernel_rfl, RC, RD, RG, O⟩) _
                    exact AllReady.nil
                  exact AllReady.nil
                exact AllReady.nil
              refine ready_new (fun g => .pointer (some ⟨g, 0, none⟩)) (.cells #[Value.int IntKind.u64 0, Value.int IntKind.u64 0, Value.int IntKind.u64 0, Value.int IntKind.u64 0] 27) rfl rfl (by kernel_rfl) ?_ ?_
              · intro ge w140 RE n0 hb40
                replace RE : Row w140 ge 27 4 (fun _ => 0) := RE
                have n1 := RC.lt
                have n2 := RD.lt
                have n3 := O.size
                replace RC := RC.keep hb40
                replace RD := RD.keep hb40
                replace HZ := HZ.keep hb40
                replace O := O.trans (hb40.mono O.size)
                clear hb40
                refine wpAny_ready (rs := [5]) (by kernel_rfl) (by simp) ?_
                refine ready_call 7 #[.string (b ++ zS)] rfl rfl (by kernel_rfl) ?_ ?_
                · refine (F.out.d2 _).mono ?_
                  rintro _ w141 ⟨rfl, hb41⟩
                  refine ⟨_, rfl, ?_⟩
                  replace RC := RC.keep hb41
                  replace RD := RD.keep hb41
                  replace HZ := HZ.keep hb41
                  replace RE := RE.keep hb41
                  replace O := O.trans (hb41.mono O.size)
                  clear hb41
                  refine wpAny_take (i := 6) (v := .tuple #[.agg (arr 4 x), .int .i64 0]) rfl (by kernel_rfl) (by kernel_rfl) (by kernel_rfl) (fun _ _ _ h => h) (Or.inl ⟨by rfl, fun _ => by kernel_rfl⟩) ?_
                  refine wpAny_take (i := 7) (v := .agg (arr 4 x)) rfl (by kernel_rfl) (by kernel_rfl) (by kernel_rfl) (fun _ _ _ h => h) (Or.inl ⟨by rfl, fun _ => by kernel_rfl⟩) ?_
                  refine wpAny_take (i := 8) (v := .int .i64 0) rfl (by kernel_rfl) (by kernel_rfl) (by kernel_rfl) (fun _ _ _ h => h) (Or.inl ⟨by rfl, fun _ => by kernel_rfl⟩) ?_
                  refine wpAny_ready (rs := [10]) (by kernel_rfl) (by simp) ?_
                  refine ready_put (f' := x) RE rfl rfl 27 _ _ rfl (by kernel_rfl) (by kernel_rfl) (info27 _) ?_ ?_
                  · intro w142 RG ho hu
                    replace RC := RC.at_ (ho ga (by omega))
                    replace RD := RD.at_ (ho gd (by omega))
                    replace O := hu _ _ (by omega) O
                    clear ho hu
                    refine wpAny_ready (rs := [11]) (by kernel_rfl) (by simp) ?_
                    refine ready_to (.int .i64 0) w142 rfl rfl (by kernel_rfl) ?_ ?_
                    · skip
                      exact wpAny_done (by kernel_rfl) (hrest _ _ ⟨gm, ge, by kernel_rfl, RC, RD, RG, O⟩) _
                    exact AllReady.nil
                  exact AllReady.nil
                exact AllReady.nil
              exact AllReady.nil
            refine ready_new (fun g => .pointer (some ⟨g, 0, none⟩)) (.cells #[Value.int IntKind.u64 0, Value.int IntKind.u64 0, Value.int IntKind.u64 0, Value.int IntKind.u64 0] 27) rfl rfl (by kernel_rfl) ?_ ?_
            · intro ge w144 RE n0 hb44
              replace RE : Row w144 ge 27 4 (fun _ => 0) := RE
              have n1 := RC.lt
              have n2 := RD.lt
              have n3 := O.size
              replace RC := RC.keep hb44
              replace RD := RD.keep hb44
              replace HZ := HZ.keep hb44
              replace O := O.trans (hb44.mono O.size)
              clear hb44
              refine wpAny_ready (rs := [4]) (by kernel_rfl) (by simp) ?_
              refine ready_to (.string (b ++ zS)) _ rfl rfl (run_cat b zS _ _ _ rfl (by kernel_rfl) (by kernel_rfl) F.out.bsz zS_size) ?_ ?_
              · skip
                refine wpAny_ready (rs := [5]) (by kernel_rfl) (by simp) ?_
                refine ready_call 7 #[.string (b ++ zS)] rfl rfl (by kernel_rfl) ?_ ?_
                · refine (F.out.d2 _).mono ?_
                  rintro _ w146 ⟨rfl, hb46⟩
                  refine ⟨_, rfl, ?_⟩
                  replace RC := RC.keep hb46
                  replace RD := RD.keep hb46
                  replace HZ := HZ.keep hb46
                  replace RE := RE.keep hb46
                  replace O := O.trans (hb46.mono O.size)
                  clear hb46
                  refine wpAny_take (i := 6) (v := .tuple #[.agg (arr 4 x), .int .i64 0]) rfl (by kernel_rfl) (by kernel_rfl) (by kernel_rfl) (fun _ _ _ h => h) (Or.inl ⟨by rfl, fun _ => by kernel_rfl⟩) ?_
                  refine wpAny_take (i := 7) (v := .agg (arr 4 x)) rfl (by kernel_rfl) (by kernel_rfl) (by kernel_rfl) (fun _ _ _ h => h) (Or.inl ⟨by rfl, fun _ => by kernel_rfl⟩) ?_
                  refine wpAny_take (i := 8) (v := .int .i64 0) rfl (by kernel_rfl) (by kernel_rfl) (by kernel_rfl) (fun _ _ _ h => h) (Or.inl ⟨by rfl, fun _ => by kernel_rfl⟩) ?_
                  refine wpAny_ready (rs := [10]) (by kernel_rfl) (by simp) ?_
                  refine ready_put (f' := x) RE rfl rfl 27 _ _ rfl (by kernel_rfl) (by kernel_rfl) (info27 _) ?_ ?_
                  · intro w147 RG ho hu
                    replace RC := RC.at_ (ho ga (by omega))
                    replace RD := RD.at_ (ho gd (by omega))
                    replace O := hu _ _ (by omega) O
                    clear ho hu
                    refine wpAny_ready (rs := [11]) (by kernel_rfl) (by simp) ?_
                    refine ready_to (.int .i64 0) w147 rfl rfl (by kernel_rfl) ?_ ?_
                    · skip
                      exact wpAny_done (by kernel_rfl) (hrest _ _ ⟨gm, ge, by kernel_rfl, RC, RD, RG, O⟩) _
                    exact AllReady.nil
                  exact AllReady.nil
                exact AllReady.nil
              exact AllReady.nil
            exact AllReady.nil
          refine ready_new (fun g => .pointer (some ⟨g, 0, none⟩)) (.cells #[Value.int IntKind.u64 0, Value.int IntKind.u64 0, Value.int IntKind.u64 0, Value.int IntKind.u64 0] 27) rfl rfl (by kernel_rfl) ?_ ?_
          · intro ge w149 RE n0 hb49
            replace RE : Row w149 ge 27 4 (fun _ => 0) := RE
            have n1 := RC.lt
            have n2 := RD.lt
            have n3 := O.size
            replace RC := RC.keep hb49
            replace RD := RD.keep hb49
            replace HZ := HZ.keep hb49
            replace O := O.trans (hb49.mono O.size)
            clear hb49
            refine wpAny_ready (rs := [3]) (by kernel_rfl) (by simp) ?_
            refine ready_to (.string zS) _ rfl rfl (run_conv _ rfl (by kernel_rfl) HZ) ?_ ?_
            · skip
              refine wpAny_ready (rs := [4]) (by kernel_rfl) (by simp) ?_
              refine ready_to (.string (b ++ zS)) _ rfl rfl (run_cat b zS _ _ _ rfl (by kernel_rfl) (by kernel_rfl) F.out.bsz zS_size) ?_ ?_
              · skip
                refine wpAny_ready (rs := [5]) (by kernel_rfl) (by simp) ?_
                refine ready_call 7 #[.string (b ++ zS)] rfl rfl (by kernel_rfl) ?_ ?_
                · refine (F.out.d2 _).mono ?_
                  rintro _ w152 ⟨rfl, hb52⟩
                  refine ⟨_, rfl, ?_⟩
                  replace RC := RC.keep hb52
                  replace RD := RD.keep hb52
                  replace HZ := HZ.keep hb52
                  replace RE := RE.keep hb52
                  replace O := O.trans (hb52.mono O.size)
                  clear hb52
                  refine wpAny_take (i := 6) (v := .tuple #[.agg (arr 4 x), .int .i64 0]) rfl (by kernel_rfl) (by kernel_rfl) (by kernel_rfl) (fun _ _ _ h => h) (Or.inl ⟨by rfl, fun _ => by kernel_rfl⟩) ?_
                  refine wpAny_take (i := 7) (v := .agg (arr 4 x)) rfl (by kernel_rfl) (by kernel_rfl) (by kernel_rfl) (fun _ _ _ h => h) (Or.inl ⟨by rfl, fun _ => by kernel_rfl⟩) ?_
                  refine wpAny_take (i := 8) (v := .int .i64 0) rfl (by kernel_rfl) (by kernel_rfl) (by kernel_rfl) (fun _ _ _ h => h) (Or.inl ⟨by rfl, fun _ => by kernel_rfl⟩) ?_
                  refine wpAny_ready (rs := [10]) (by kernel_rfl) (by simp) ?_
                  refine ready_put (f' := x) RE rfl rfl 27 _ _ rfl (by kernel_rfl) (by kernel_rfl) (info27 _) ?_ ?_
                  · intro w153 RG ho hu
                    replace RC := RC.at_ (ho ga (by omega))
                    replace RD := RD.at_ (ho gd (by omega))
                    replace O := hu _ _ (by omega) O
                    clear ho hu
                    refine wpAny_ready (rs := [11]) (by kernel_rfl) (by simp) ?_
                    refine ready_to (.int .i64 0) w153 rfl rfl (by kernel_rfl) ?_ ?_
                    · skip
                      exact wpAny_done (by kernel_rfl) (hrest _ _ ⟨gm, ge, by kernel_rfl, RC, RD, RG, O⟩) _
                    exact AllReady.nil
                  exact AllReady.nil
                exact AllReady.nil
              exact AllReady.nil
            exact AllReady.nil
          exact AllReady.nil
        refine ready_to (.string zS) _ rfl rfl (run_conv _ rfl (by kernel_rfl) HZ) ?_ ?_
        · skip
          refine wpAny_ready (rs := [1, 9]) (by kernel_rfl) (by simp) ?_
          refine ready_call 22 #[.agg (arr 4 x)] rfl rfl (by kernel_rfl) ?_ ?_
          · refine (F.out.by1 _).mono ?_
            rintro _ w156 ⟨rfl, hb56⟩
            refine ⟨_, rfl, ?_⟩
            replace RC := RC.keep hb56
            replace RD := RD.keep hb56
            replace HZ := HZ.keep hb56
            replace O := O.trans (hb56.mono O.size)
            clear hb56
            refine wpAny_ready (rs := [4, 9]) (by kernel_rfl) (by simp) ?_
            refine ready_to (.string (b ++ zS)) _ rfl rfl (run_cat b zS _ _ _ rfl (by kernel_rfl) (by kernel_rfl) F.out.bsz zS_size) ?_ ?_
            · skip
              refine wpAny_ready (rs := [5, 9]) (by kernel_rfl) (by simp) ?_
              refine ready_call 7 #[.string (b ++ zS)] rfl rfl (by kernel_rfl) ?_ ?_
              · refine (F.out.d2 _).mono ?_
                rintro _ w158 ⟨rfl, hb58⟩
                refine ⟨_, rfl, ?_⟩
                replace RC := RC.keep hb58
                replace RD := RD.keep hb58
                replace HZ := HZ.keep hb58
                replace O := O.trans (hb58.mono O.size)
                clear hb58
                refine wpAny_take (i := 6) (v := .tuple #[.agg (arr 4 x), .int .i64 0]) rfl (by kernel_rfl) (by kernel_rfl) (by kernel_rfl) (fun _ _ _ h => h) (Or.inl ⟨by rfl, fun _ => by kernel_rfl⟩) ?_
                refine wpAny_take (i := 7) (v := .agg (arr 4 x)) rfl (by kernel_rfl) (by kernel_rfl) (by kernel_rfl) (fun _ _ _ h => h) (Or.inl ⟨by rfl, fun _ => by kernel_rfl⟩) ?_
                refine wpAny_take (i := 8) (v := .int .i64 0) rfl (by kernel_rfl) (by kernel_rfl) (by kernel_rfl) (fun _ _ _ h => h) (Or.inl ⟨by rfl, fun _ => by kernel_rfl⟩) ?_
                refine wpAny_ready (rs := [9]) (by kernel_rfl) (by simp) ?_
                refine ready_new (fun g => .pointer (some ⟨g, 0, none⟩)) (.cells #[Value.int IntKind.u64 0, Value.int IntKind.u64 0, Value.int IntKind.u64 0, Value.int IntKind.u64 0] 27) rfl rfl (by kernel_rfl) ?_ ?_
                · intro ge w159 RE n0 hb59
                  replace RE : Row w159 ge 27 4 (fun _ => 0) := RE
                  have n1 := RC.lt
                  have n2 := RD.lt
                  have n3 := O.size
                  replace RC := RC.keep hb59
                  replace RD := RD.keep hb59
                  replace HZ := HZ.keep hb59
                  replace O := O.trans (hb59.mono O.size)
                  clear hb59
                  refine wpAny_ready (rs := [10]) (by kernel_rfl) (by simp) ?_
                  refine ready_put (f' := x) RE rfl rfl 27 _ _ rfl (by kernel_rfl) (by kernel_rfl) (info27 _) ?_ ?_
                  · intro w160 RG ho hu
                    replace RC := RC.at_ (ho ga (by omega))
                    replace RD := RD.at_ (ho gd (by omega))
                    replace O := hu _ _ (by omega) O
                    clear ho hu
                    refine wpAny_ready (rs := [11]) (by kernel_rfl) (by simp) ?_
                    refine ready_to (.int .i64 0) w160 rfl rfl (by kernel_rfl) ?_ ?_
                    · skip
                      exact wpAny_done (by kernel_rfl) (hrest _ _ ⟨gm, ge, by kernel_rfl, RC, RD, RG, O⟩) _
                    exact AllReady.nil
                  exact AllReady.nil
                exact AllReady.nil
              refine ready_new (fun g => .pointer (some ⟨g, 0, none⟩)) (.cells #[Value.int IntKind.u64 0, Value.int IntKind.u64 0, Value.int IntKind.u64 0, Value.int IntKind.u64 0] 27) rfl rfl (by kernel_rfl) ?_ ?_
              · intro ge w162 RE n0 hb62
                replace RE : Row w162 ge 27 4 (fun _ => 0) := RE
                have n1 := RC.lt
                have n2 := RD.lt
                have n3 := O.size
                replace RC := RC.keep hb62
                replace RD := RD.keep hb62
                replace HZ := HZ.keep hb62
                replace O := O.trans (hb62.mono O.size)
                clear hb62
                refine wpAny_ready (rs := [5]) (by kernel_rfl) (by simp) ?_
                refine ready_call 7 #[.string (b ++ zS)] rfl rfl (by kernel_rfl) ?_ ?_
                · refine (F.out.d2 _).mono ?_
                  rintro _ w163 ⟨rfl, hb63⟩
                  refine ⟨_, rfl, ?_⟩
                  replace RC := RC.keep hb63
                  replace RD := RD.keep hb63
                  replace HZ := HZ.keep hb63
                  replace RE := RE.keep hb63
                  replace O := O.trans (hb63.mono O.size)
                  clear hb63
                  refine wpAny_take (i := 6) (v := .tuple #[.agg (arr 4 x), .int .i64 0]) rfl (by kernel_rfl) (by kernel_rfl) (by kernel_rfl) (fun _ _ _ h => h) (Or.inl ⟨by rfl, fun _ => by kernel_rfl⟩) ?_
                  refine wpAny_take (i := 7) (v := .agg (arr 4 x)) rfl (by kernel_rfl) (by kernel_rfl) (by kernel_rfl) (fun _ _ _ h => h) (Or.inl ⟨by rfl, fun _ => by kernel_rfl⟩) ?_
                  refine wpAny_take (i := 8) (v := .int .i64 0) rfl (by kernel_rfl) (by kernel_rfl) (by kernel_rfl) (fun _ _ _ h => h) (Or.inl ⟨by rfl, fun _ => by kernel_rfl⟩) ?_
                  refine wpAny_ready (rs := [10]) (by kernel_rfl) (by simp) ?_
                  refine ready_put (f' := x) RE rfl rfl 27 _ _ rfl (by kernel_rfl) (by kernel_rfl) (info27 _) ?_ ?_
                  · intro w164 RG ho hu
                    replace RC := RC.at_ (ho ga (by omega))
                    replace RD := RD.at_ (ho gd (by omega))
                    replace O := hu _ _ (by omega) O
                    clear ho hu
                    refine wpAny_ready (rs := [11]) (by kernel_rfl) (by simp) ?_
                    refine ready_to (.int .i64 0) w164 rfl rfl (by kernel_rfl) ?_ ?_
                    · skip
                      exact wpAny_done (by kernel_rfl) (hrest _ _ ⟨gm, ge, by kernel_rfl, RC, RD, RG, O⟩) _
                    exact AllReady.nil
                  exact AllReady.nil
                exact AllReady.nil
              exact AllReady.nil
            refine ready_new (fun g => .pointer (some ⟨g, 0, none⟩)) (.cells #[Value.int IntKind.u64 0, Value.int IntKind.u64 0, Value.int IntKind.u64 0, Value.int IntKind.u64 0] 27) rfl rfl (by kernel_rfl) ?_ ?_
            · intro ge w166 RE n0 hb66
              replace RE : Row w166 ge 27 4 (fun _ => 0) := RE
              have n1 := RC.lt
              have n2 := RD.lt
              have n3 := O.size
              replace RC := RC.keep hb66
              replace RD := RD.keep hb66
              replace HZ := HZ.keep hb66
              replace O := O.trans (hb66.mono O.size)
              clear hb66
              refine wpAny_ready (rs := [4]) (by kernel_rfl) (by simp) ?_
              refine ready_to (.string (b ++ zS)) _ rfl rfl (run_cat b zS _ _ _ rfl (by kernel_rfl) (by kernel_rfl) F.out.bsz zS_size) ?_ ?_
              · skip
                refine wpAny_ready (rs := [5]) (by kernel_rfl) (by simp) ?_
                refine ready_call 7 #[.string (b ++ zS)] rfl rfl (by kernel_rfl) ?_ ?_
                · refine (F.out.d2 _).mono ?_
                  rintro _ w168 ⟨rfl, hb68⟩
                  refine ⟨_, rfl, ?_⟩
                  replace RC := RC.keep hb68
                  replace RD := RD.keep hb68
                  replace HZ := HZ.keep hb68
                  replace RE := RE.keep hb68
                  replace O := O.trans (hb68.mono O.size)
                  clear hb68
                  refine wpAny_take (i := 6) (v := .tuple #[.agg (arr 4 x), .int .i64 0]) rfl (by kernel_rfl) (by kernel_rfl) (by kernel_rfl) (fun _ _ _ h => h) (Or.inl ⟨by rfl, fun _ => by kernel_rfl⟩) ?_
                  refine wpAny_take (i := 7) (v := .agg (arr 4 x)) rfl (by kernel_rfl) (by kernel_rfl) (by kernel_rfl) (fun _ _ _ h => h) (Or.inl ⟨by rfl, fun _ => by kernel_rfl⟩) ?_
                  refine wpAny_take (i := 8) (v := .int .i64 0) rfl (by kernel_rfl) (by kernel_rfl) (by kernel_rfl) (fun _ _ _ h => h) (Or.inl ⟨by rfl, fun _ => by kernel_rfl⟩) ?_
                  refine wpAny_ready (rs := [10]) (by kernel_rfl) (by simp) ?_
                  refine ready_put (f' := x) RE rfl rfl 27 _ _ rfl (by kernel_rfl) (by kernel_rfl) (info27 _) ?_ ?_
                  · intro w169 RG ho hu
                    replace RC := RC.at_ (ho ga (by omega))
                    replace RD := RD.at_ (ho gd (by omega))
                    replace O := hu _ _ (by omega) O
                    clear ho hu
                    refine wpAny_ready (rs := [11]) (by kernel_rfl) (by simp) ?_
                    refine ready_to (.int .i64 0) w169 rfl rfl (by kernel_rfl) ?_ ?_
                    · skip
                      exact wpAny_done (by kernel_rfl) (hrest _ _ ⟨gm, ge, by kernel_rfl, RC, RD, RG, O⟩) _
                    exact AllReady.nil
                  exact AllReady.nil
                exact AllReady.nil
              exact AllReady.nil
            exact AllReady.nil
          refine ready_new (fun g => .pointer (some ⟨g, 0, none⟩)) (.cells #[Value.int IntKind.u64 0, Value.int IntKind.u64 0, Value.int IntKind.u64 0, Value.int IntKind.u64 0] 27) rfl rfl (by kernel_rfl) ?_ ?_
          · intro ge w171 RE n0 hb71
            replace RE : Row w171 ge 27 4 (fun _ => 0) := RE
            have n1 := RC.lt
            have n2 := RD.lt
            have n3 := O.size
            replace RC := RC.keep hb71
            replace RD := RD.keep hb71
            replace HZ := HZ.keep hb71
            replace O := O.trans (hb71.mono O.size)
            clear hb71
            refine wpAny_ready (rs := [1]) (by kernel_rfl) (by simp) ?_
            refine ready_call 22 #[.agg (arr 4 x)] rfl rfl (by kernel_rfl) ?_ ?_
            · refine (F.out.by1 _).mono ?_
              rintro _ w172 ⟨rfl, hb72⟩
              refine ⟨_, rfl, ?_⟩
              replace RC := RC.keep hb72
              replace RD := RD.keep hb72
              replace HZ := HZ.keep hb72
              replace RE := RE.keep hb72
              replace O := O.trans (hb72.mono O.size)
              clear hb72
              refine wpAny_ready (rs := [4]) (by kernel_rfl) (by simp) ?_
              refine ready_to (.string (b ++ zS)) _ rfl rfl (run_cat b zS _ _ _ rfl (by kernel_rfl) (by kernel_rfl) F.out.bsz zS_size) ?_ ?_
              · skip
                refine wpAny_ready (rs := [5]) (by kernel_rfl) (by simp) ?_
                refine ready_call 7 #[.string (b ++ zS)] rfl rfl (by kernel_rfl) ?_ ?_
                · refine (F.out.d2 _).mono ?_
                  rintro _ w174 ⟨rfl, hb74⟩
                  refine ⟨_, rfl, ?_⟩
                  replace RC := RC.keep hb74
                  replace RD := RD.keep hb74
                  replace HZ := HZ.keep hb74
                  replace RE := RE.keep hb74
                  replace O := O.trans (hb74.mono O.size)
                  clear hb74
                  refine wpAny_take (i := 6) (v := .tuple #[.agg (arr 4 x), .int .i64 0]) rfl (by kernel_rfl) (by kernel_rfl) (by kernel_rfl) (fun _ _ _ h => h) (Or.inl ⟨by rfl, fun _ => by kernel_rfl⟩) ?_
                  refine wpAny_take (i := 7) (v := .agg (arr 4 x)) rfl (by kernel_rfl) (by kernel_rfl) (by kernel_rfl) (fun _ _ _ h => h) (Or.inl ⟨by rfl, fun _ => by kernel_rfl⟩) ?_
                  refine wpAny_take (i := 8) (v := .int .i64 0) rfl (by kernel_rfl) (by kernel_rfl) (by kernel_rfl) (fun _ _ _ h => h) (Or.inl ⟨by rfl, fun _ => by kernel_rfl⟩) ?_
                  refine wpAny_ready (rs := [10]) (by kernel_rfl) (by simp) ?_
                  refine ready_put (f' := x) RE rfl rfl 27 _ _ rfl (by kernel_rfl) (by kernel_rfl) (info27 _) ?_ ?_
                  · intro w175 RG ho hu
                    replace RC := RC.at_ (ho ga (by omega))
                    replace RD := RD.at_ (ho gd (by omega))
                    replace O := hu _ _ (by omega) O
                    clear ho hu
                    refine wpAny_ready (rs := [11]) (by kernel_rfl) (by simp) ?_
                    refine ready_to (.int .i64 0) w175 rfl rfl (by kernel_rfl) ?_ ?_
                    · skip
                      exact wpAny_done (by kernel_rfl) (hrest _ _ ⟨gm, ge, by kernel_rfl, RC, RD, RG, O⟩) _
                    exact AllReady.nil
                  exact AllReady.nil
                exact AllReady.nil
              exact AllReady.nil
            exact AllReady.nil
          exact AllReady.nil
        refine ready_new (fun g => .pointer (some ⟨g, 0, none⟩)) (.cells #[Value.int IntKind.u64 0, Value.int IntKind.u64 0, Value.int IntKind.u64 0, Value.int IntKind.u64 0] 27) rfl rfl (by kernel_rfl) ?_ ?_
        · intro ge w177 RE n0 hb77
          replace RE : Row w177 ge 27 4 (fun _ => 0) := RE
          have n1 := RC.lt
          have n2 := RD.lt
          have n3 := O.size
          replace RC := RC.keep hb77
          replace RD := RD.keep hb77
          replace HZ := HZ.keep hb77
          replace O := O.trans (hb77.mono O.size)
          clear hb77
          refine wpAny_ready (rs := [1, 3]) (by kernel_rfl) (by simp) ?_
          refine ready_call 22 #[.agg (arr 4 x)] rfl rfl (by kernel_rfl) ?_ ?_
          · refine (F.out.by1 _).mono ?_
            rintro _ w178 ⟨rfl, hb78⟩
            refine ⟨_, rfl, ?_⟩
            replace RC := RC.keep hb78
            replace RD := RD.keep hb78
            replace HZ := HZ.keep hb78
            replace RE := RE.keep hb78
            replace O := O.trans (hb78.mono O.size)
            clear hb78
            refine wpAny_ready (rs := [3]) (by kernel_rfl) (by simp) ?_
            refine ready_to (.string zS) _ rfl rfl (run_conv _ rfl (by kernel_rfl) HZ) ?_ ?_
            · skip
              refine wpAny_ready (rs := [4]) (by kernel_rfl) (by simp) ?_
              refine ready_to (.string (b ++ zS)) _ rfl rfl (run_cat b zS _ _ _ rfl (by kernel_rfl) (by kernel_rfl) F.out.bsz zS_size) ?_ ?_
              · skip
                refine wpAny_ready (rs := [5]) (by kernel_rfl) (by simp) ?_
                refine ready_call 7 #[.string (b ++ zS)] rfl rfl (by kernel_rfl) ?_ ?_
                · refine (F.out.d2 _).mono ?_
                  rintro _ w181 ⟨rfl, hb81⟩
                  refine ⟨_, rfl, ?_⟩
                  replace RC := RC.keep hb81
                  replace RD := RD.keep hb81
                  replace HZ := HZ.keep hb81
                  replace RE := RE.keep hb81
                  replace O := O.trans (hb81.mono O.size)
                  clear hb81
                  refine wpAny_take (i := 6) (v := .tuple #[.agg (arr 4 x), .int .i64 0]) rfl (by kernel_rfl) (by kernel_rfl) (by kernel_rfl) (fun _ _ _ h => h) (Or.inl ⟨by rfl, fun _ => by kernel_rfl⟩) ?_
                  refine wpAny_take (i := 7) (v := .agg (arr 4 x)) rfl (by kernel_rfl) (by kernel_rfl) (by kernel_rfl) (fun _ _ _ h => h) (Or.inl ⟨by rfl, fun _ => by kernel_rfl⟩) ?_
                  refine wpAny_take (i := 8) (v := .int .i64 0) rfl (by kernel_rfl) (by kernel_rfl) (by kernel_rfl) (fun _ _ _ h => h) (Or.inl ⟨by rfl, fun _ => by kernel_rfl⟩) ?_
                  refine wpAny_ready (rs := [10]) (by kernel_rfl) (by simp) ?_
                  refine ready_put (f' := x) RE rfl rfl 27 _ _ rfl (by kernel_rfl) (by kernel_rfl) (info27 _) ?_ ?_
                  · intro w182 RG ho hu
                    replace RC := RC.at_ (ho ga (by omega))
                    replace RD := RD.at_ (ho gd (by omega))
                    replace O := hu _ _ (by omega) O
                    clear ho hu
                    refine wpAny_ready (rs := [11]) (by kernel_rfl) (by simp) ?_
                    refine ready_to (.int .i64 0) w182 rfl rfl (by kernel_rfl) ?_ ?_
                    · skip
                      exact wpAny_done (by kernel_rfl) (hrest _ _ ⟨gm, ge, by kernel_rfl, RC, RD, RG, O⟩) _
                    exact AllReady.nil
                  exact AllReady.nil
                exact AllReady.nil
              exact AllReady.nil
            exact AllReady.nil
          refine ready_to (.string zS) _ rfl rfl (run_conv _ rfl (by kernel_rfl) HZ) ?_ ?_
          · skip
            refine wpAny_ready (rs := [1]) (by kernel_rfl) (by simp) ?_
            refine ready_call 22 #[.agg (arr 4 x)] rfl rfl (by kernel_rfl) ?_ ?_
            · refine (F.out.by1 _).mono ?_
              rintro _ w185 ⟨rfl, hb85⟩
              refine ⟨_, rfl, ?_⟩
              replace RC := RC.keep hb85
              replace RD := RD.keep hb85
              replace HZ := HZ.keep hb85
              replace RE := RE.keep hb85
              replace O := O.trans (hb85.mono O.size)
              clear hb85
              refine wpAny_ready (rs := [4]) (by kernel_rfl) (by simp) ?_
              refine ready_to (.string (b ++ zS)) _ rfl rfl (run_cat b zS _ _ _ rfl (by kernel_rfl) (by kernel_rfl) F.out.bsz zS_size) ?_ ?_
              · skip
                refine wpAny_ready (rs := [5]) (by kernel_rfl) (by simp) ?_
                refine ready_call 7 #[.string (b ++ zS)] rfl rfl (by kernel_rfl) ?_ ?_
                · refine (F.out.d2 _).mono ?_
                  rintro _ w187 ⟨rfl, hb87⟩
                  refine ⟨_, rfl, ?_⟩
                  replace RC := RC.keep hb87
                  replace RD := RD.keep hb87
                  replace HZ := HZ.keep hb87
                  replace RE := RE.keep hb87
                  replace O := O.trans (hb87.mono O.size)
                  clear hb87
                  refine wpAny_take (i := 6) (v := .tuple #[.agg (arr 4 x), .int .i64 0]) rfl (by kernel_rfl) (by kernel_rfl) (by kernel_rfl) (fun _ _ _ h => h) (Or.inl ⟨by rfl, fun _ => by kernel_rfl⟩) ?_
                  refine wpAny_take (i := 7) (v := .agg (arr 4 x)) rfl (by kernel_rfl) (by kernel_rfl) (by kernel_rfl) (fun _ _ _ h => h) (Or.inl ⟨by rfl, fun _ => by kernel_rfl⟩) ?_
                  refine wpAny_take (i := 8) (v := .int .i64 0) rfl (by kernel_rfl) (by kernel_rfl) (by kernel_rfl) (fun _ _ _ h => h) (Or.inl ⟨by rfl, fun _ => by kernel_rfl⟩) ?_
                  refine wpAny_ready (rs := [10]) (by kernel_rfl) (by simp) ?_
                  refine ready_put (f' := x) RE rfl rfl 27 _ _ rfl (by kernel_rfl) (by kernel_rfl) (info27 _) ?_ ?_
                  · intro w188 RG ho hu
                    replace RC := RC.at_ (ho ga (by omega))
                    replace RD := RD.at_ (ho gd (by omega))
                    replace O := hu _ _ (by omega) O
                    clear ho hu
                    refine wpAny_ready (rs := [11]) (by kernel_rfl) (by simp) ?_
                    refine ready_to (.int .i64 0) w188 rfl rfl (by kernel_rfl) ?_ ?_
                    · skip
                      exact wpAny_done (by kernel_rfl) (hrest _ _ ⟨gm, ge, by kernel_rfl, RC, RD, RG, O⟩) _
                    exact AllReady.nil
                  exact AllReady.nil
                exact AllReady.nil
              exact AllReady.nil
            exact AllReady.nil
          exact AllReady.nil
        exact AllReady.nil
      refine ready_new (fun g => .pointer (some ⟨g, 0, none⟩)) (.cells #[Value.int IntKind.u64 0, Value.int IntKind.u64 0, Value.int IntKind.u64 0, Value.int IntKind.u64 0] 27) rfl rfl (by kernel_rfl) ?_ ?_
      · intro ge w190 RE n0 hb90
        replace RE : Row w190 ge 27 4 (fun _ => 0) := RE
        have n1 := RC.lt
        have n2 := RD.lt
        have n3 := O.size
        replace RC := RC.keep hb90
        replace RD := RD.keep hb90
        replace O := O.trans (hb90.mono O.size)
        clear hb90
        refine wpAny_ready (rs := [1, 2]) (by kernel_rfl) (by simp) ?_
        refine ready_call 22 #[.agg (arr 4 x)] rfl rfl (by kernel_rfl) ?_ ?_
        · refine (F.out.by1 _).mono ?_
          rintro _ w191 ⟨rfl, hb91⟩
          refine ⟨_, rfl, ?_⟩
          replace RC := RC.keep hb91
          replace RD := RD.keep hb91
          replace RE := RE.keep hb91
          replace O := O.trans (hb91.mono O.size)
          clear hb91
          refine wpAny_ready (rs := [2]) (by kernel_rfl) (by simp) ?_
          refine ready_new (fun g => .slice (some ⟨g, 0, none⟩) 32 32) (.cells #[Value.int IntKind.u8 0, Value.int IntKind.u8 0, Value.int IntKind.u8 0, Value.int IntKind.u8 0, Value.int IntKind.u8 0, Value.int IntKind.u8 0, Value.int IntKind.u8 0, Value.int IntKind.u8 0, Value.int IntKind.u8 0, Value.int IntKind.u8 0, Value.int IntKind.u8 0, Value.int IntKind.u8 0, Value.int IntKind.u8 0, Value.int IntKind.u8 0, Value.int IntKind.u8 0, Value.int IntKind.u8 0, Value.int IntKind.u8 0, Value.int IntKind.u8 0, Value.int IntKind.u8 0, Value.int IntKind.u8 0, Value.int IntKind.u8 0, Value.int IntKind.u8 0, Value.int IntKind.u8 0, Value.int IntKind.u8 0, Value.int IntKind.u8 0, Value.int IntKind.u8 0, Value.int IntKind.u8 0, Value.int IntKind.u8 0, Value.int IntKind.u8 0, Value.int IntKind.u8 0, Value.int IntKind.u8 0, Value.int IntKind.u8 0] 5) rfl rfl (by kernel_rfl) ?_ ?_
          · intro gm w192 HZ _ hb92
            replace HZ : Z32 w192 gm := HZ
            replace RC := RC.keep hb92
            replace RD := RD.keep hb92
            replace RE := RE.keep hb92
            replace O := O.trans (hb92.mono O.size)
            clear hb92
            refine wpAny_ready (rs := [3]) (by kernel_rfl) (by simp) ?_
            refine ready_to (.string zS) _ rfl rfl (run_conv _ rfl (by kernel_rfl) HZ) ?_ ?_
            · skip
              refine wpAny_ready (rs := [4]) (by kernel_rfl) (by simp) ?_
              refine ready_to (.string (b ++ zS)) _ rfl rfl (run_cat b zS _ _ _ rfl (by kernel_rfl) (by kernel_rfl) F.out.bsz zS_size) ?_ ?_
              · skip
                refine wpAny_ready (rs := [5]) (by kernel_rfl) (by simp) ?_
                refine ready_call 7 #[.string (b ++ zS)] rfl rfl (by kernel_rfl) ?_ ?_
                · refine (F.out.d2 _).mono ?_
                  rintro _ w195 ⟨rfl, hb95⟩
                  refine ⟨_, rfl, ?_⟩
                  replace RC := RC.keep hb95
                  replace RD := RD.keep hb95
                  replace HZ := HZ.keep hb95
                  replace RE := RE.keep hb95
                  replace O := O.trans (hb95.mono O.size)
                  clear hb95
                  refine wpAny_take (i := 6) (v := .tuple #[.agg (arr 4 x), .int .i64 0]) rfl (by kernel_rfl) (by kernel_rfl) (by kernel_rfl) (fun _ _ _ h => h) (Or.inl ⟨by rfl, fun _ => by kernel_rfl⟩) ?_
                  refine wpAny_take (i := 7) (v := .agg (arr 4 x)) rfl (by kernel_rfl) (by kernel_rfl) (by kernel_rfl) (fun _ _ _ h => h) (Or.inl ⟨by rfl, fun _ => by kernel_rfl⟩) ?_
                  refine wpAny_take (i := 8) (v := .int .i64 0) rfl (by kernel_rfl) (by kernel_rfl) (by kernel_rfl) (fun _ _ _ h => h) (Or.inl ⟨by rfl, fun _ => by kernel_rfl⟩) ?_
                  refine wpAny_ready (rs := [10]) (by kernel_rfl) (by simp) ?_
                  refine ready_put (f' := x) RE rfl rfl 27 _ _ rfl (by kernel_rfl) (by kernel_rfl) (info27 _) ?_ ?_
                  · intro w196 RG ho hu
                    replace RC := RC.at_ (ho ga (by omega))
                    replace RD := RD.at_ (ho gd (by omega))
                    replace O := hu _ _ (by omega) O
                    clear ho hu
                    refine wpAny_ready (rs := [11]) (by kernel_rfl) (by simp) ?_
                    refine ready_to (.int .i64 0) w196 rfl rfl (by kernel_rfl) ?_ ?_
                    · skip
                      exact wpAny_done (by kernel_rfl) (hrest _ _ ⟨gm, ge, by kernel_rfl, RC, RD, RG, O⟩) _
                    exact AllReady.nil
                  exact AllReady.nil
                exact AllReady.nil
              exact AllReady.nil
            exact AllReady.nil
          exact AllReady.nil
        refine ready_new (fun g => .slice (some ⟨g, 0, none⟩) 32 32) (.cells #[Value.int IntKind.u8 0, Value.int IntKind.u8 0, Value.int IntKind.u8 0, Value.int IntKind.u8 0, Value.int IntKind.u8 0, Value.int IntKind.u8 0, Value.int IntKind.u8 0, Value.int IntKind.u8 0, Value.int IntKind.u8 0, Value.int IntKind.u8 0, Value.int IntKind.u8 0, Value.int IntKind.u8 0, Value.int IntKind.u8 0, Value.int IntKind.u8 0, Value.int IntKind.u8 0, Value.int IntKind.u8 0, Value.int IntKind.u8 0, Value.int IntKind.u8 0, Value.int IntKind.u8 0, Value.int IntKind.u8 0, Value.int IntKind.u8 0, Value.int IntKind.u8 0, Value.int IntKind.u8 0, Value.int IntKind.u8 0, Value.int IntKind.u8 0, Value.int IntKind.u8 0, Value.int IntKind.u8 0, Value.int IntKind.u8 0, Value.int IntKind.u8 0, Value.int IntKind.u8 0, Value.int IntKind.u8 0, Value.int IntKind.u8 0] 5) rfl rfl (by kernel_rfl) ?_ ?_
        · intro gm w198 HZ _ hb98
          replace HZ : Z32 w198 gm := HZ
          replace RC := RC.keep hb98
          replace RD := RD.keep hb98
          replace RE := RE.keep hb98
          replace O := O.trans (hb98.mono O.size)
          clear hb98
          refine wpAny_ready (rs := [1, 3]) (by kernel_rfl) (by simp) ?_
          refine ready_call 22 #[.agg (arr 4 x)] rfl rfl (by kernel_rfl) ?_ ?_
          · refine (F.out.by1 _).mono ?_
            rintro _ w199 ⟨rfl, hb99⟩
            refine ⟨_, rfl, ?_⟩
            replace RC := RC.keep hb99
            replace RD := RD.keep hb99
            replace HZ := HZ.keep hb99
            replace RE := RE.keep hb99
            replace O := O.trans (hb99.mono O.size)
            clear hb99
            refine wpAny_ready (rs := [3]) (by kernel_rfl) (by simp) ?_
            refine ready_to (.string zS) _ rfl rfl (run_conv _ rfl (by kernel_rfl) HZ) ?_ ?_
            · skip
              refine wpAny_ready (rs := [4]) (by kernel_rfl) (by simp) ?_
              refine ready_to (.string (b ++ zS)) _ rfl rfl (run_cat b zS _ _ _ rfl (by kernel_rfl) (by kernel_rfl) F.out.bsz zS_size) ?_ ?_
              · skip
                refine wpAny_ready (rs := [5]) (by kernel_rfl) (by simp) ?_
                refine ready_call 7 #[.string (b ++ zS)] rfl rfl (by kernel_rfl) ?_ ?_
                · refine (F.out.d2 _).mono ?_
                  rintro _ w202 ⟨rfl, hb102⟩
                  refine ⟨_, rfl, ?_⟩
                  replace RC := RC.keep hb102
                  replace RD := RD.keep hb102
                  replace HZ := HZ.keep hb102
                  replace RE := RE.keep hb102
                  replace O := O.trans (hb102.mono O.size)
                  clear hb102
                  refine wpAny_take (i := 6) (v := .tuple #[.agg (arr 4 x), .int .i64 0]) rfl (by kernel_rfl) (by kernel_rfl) (by kernel_rfl) (fun _ _ _ h => h) (Or.inl ⟨by rfl, fun _ => by kernel_rfl⟩) ?_
                  refine wpAny_take (i := 7) (v := .agg (arr 4 x)) rfl (by kernel_rfl) (by kernel_rfl) (by kernel_rfl) (fun _ _ _ h => h) (Or.inl ⟨by rfl, fun _ => by kernel_rfl⟩) ?_
                  refine wpAny_take (i := 8) (v := .int .i64 0) rfl (by kernel_rfl) (by kernel_rfl) (by kernel_rfl) (fun _ _ _ h => h) (Or.inl ⟨by rfl, fun _ => by kernel_rfl⟩) ?_
                  refine wpAny_ready (rs := [10]) (by kernel_rfl) (by simp) ?_
                  refine ready_put (f' := x) RE rfl rfl 27 _ _ rfl (by kernel_rfl) (by kernel_rfl) (info27 _) ?_ ?_
                  · intro w203 RG ho hu
                    replace RC := RC.at_ (ho ga (by omega))
                    replace RD := RD.at_ (ho gd (by omega))
                    replace O := hu _ _ (by omega) O
                    clear ho hu
                    refine wpAny_ready (rs := [11]) (by kernel_rfl) (by simp) ?_
                    refine ready_to (.int .i64 0) w203 rfl rfl (by kernel_rfl) ?_ ?_
                    · skip
                      exact wpAny_done (by kernel_rfl) (hrest _ _ ⟨gm, ge, by kernel_rfl, RC, RD, RG, O⟩) _
                    exact AllReady.nil
                  exact AllReady.nil
                exact AllReady.nil
              exact AllReady.nil
            exact AllReady.nil
          refine ready_to (.string zS) _ rfl rfl (run_conv _ rfl (by kernel_rfl) HZ) ?_ ?_
          · skip
            refine wpAny_ready (rs := [1]) (by kernel_rfl) (by simp) ?_
            refine ready_call 22 #[.agg (arr 4 x)] rfl rfl (by kernel_rfl) ?_ ?_
            · refine (F.out.by1 _).mono ?_
              rintro _ w206 ⟨rfl, hb106⟩
              refine ⟨_, rfl, ?_⟩
              replace RC := RC.keep hb106
              replace RD := RD.keep hb106
              replace HZ := HZ.keep hb106
              replace RE := RE.keep hb106
              replace O := O.trans (hb106.mono O.size)
              clear hb106
              refine wpAny_ready (rs := [4]) (by kernel_rfl) (by simp) ?_
              refine ready_to (.string (b ++ zS)) _ rfl rfl (run_cat b zS _ _ _ rfl (by kernel_rfl) (by kernel_rfl) F.out.bsz zS_size) ?_ ?_
              · skip
                refine wpAny_ready (rs := [5]) (by kernel_rfl) (by simp) ?_
                refine ready_call 7 #[.string (b ++ zS)] rfl rfl (by kernel_rfl) ?_ ?_
                · refine (F.out.d2 _).mono ?_
                  rintro _ w208 ⟨rfl, hb108⟩
                  refine ⟨_, rfl, ?_⟩
                  replace RC := RC.keep hb108
                  replace RD := RD.keep hb108
                  replace HZ := HZ.keep hb108
                  replace RE := RE.keep hb108
                  replace O := O.trans (hb108.mono O.size)
                  clear hb108
                  refine wpAny_take (i := 6) (v := .tuple #[.agg (arr 4 x), .int .i64 0]) rfl (by kernel_rfl) (by kernel_rfl) (by kernel_rfl) (fun _ _ _ h => h) (Or.inl ⟨by rfl, fun _ => by kernel_rfl⟩) ?_
                  refine wpAny_take (i := 7) (v := .agg (arr 4 x)) rfl (by kernel_rfl) (by kernel_rfl) (by kernel_rfl) (fun _ _ _ h => h) (Or.inl ⟨by rfl, fun _ => by kernel_rfl⟩) ?_
                  refine wpAny_take (i := 8) (v := .int .i64 0) rfl (by kernel_rfl) (by kernel_rfl) (by kernel_rfl) (fun _ _ _ h => h) (Or.inl ⟨by rfl, fun _ => by kernel_rfl⟩) ?_
                  refine wpAny_ready (rs := [10]) (by kernel_rfl) (by simp) ?_
                  refine ready_put (f' := x) RE rfl rfl 27 _ _ rfl (by kernel_rfl) (by kernel_rfl) (info27 _) ?_ ?_
                  · intro w209 RG ho hu
                    replace RC := RC.at_ (ho ga (by omega))
                    replace RD := RD.at_ (ho gd (by omega))
                    replace O := hu _ _ (by omega) O
                    clear ho hu
                    refine wpAny_ready (rs := [11]) (by kernel_rfl) (by simp) ?_
                    refine ready_to (.int .i64 0) w209 rfl rfl (by kernel_rfl) ?_ ?_
                    · skip
                      exact wpAny_done (by kernel_rfl) (hrest _ _ ⟨gm, ge, by kernel_rfl, RC, RD, RG, O⟩) _
                    exact AllReady.nil
                  exact AllReady.nil
                exact AllReady.nil
              exact AllReady.nil
            exact AllReady.nil
          exact AllReady.nil
        exact AllReady.nil
      exact AllReady.nil
    refine ready_new (fun g => .slice (some ⟨g, 0, none⟩) 32 32) (.cells #[Value.int IntKind.u8 0, Value.int IntKind.u8 0, Value.int IntKind.u8 0, Value.int IntKind.u8 0, Value.int IntKind.u8 0, Value.int IntKind.u8 0, Value.int IntKind.u8 0, Value.int IntKind.u8 0, Value.int IntKind.u8 0, Value.int IntKind.u8 0, Value.int IntKind.u8 0, Value.int IntKind.u8 0, Value.int IntKind.u8 0, Value.int IntKind.u8 0, Value.int IntKind.u8 0, Value.int IntKind.u8 0, Value.int IntKind.u8 0, Value.int IntKind.u8 0, Value.int IntKind.u8 0, Value.int IntKind.u8 0, Value.int IntKind.u8 0, Value.int IntKind.u8 0, Value.int IntKind.u8 0, Value.int IntKind.u8 0, Value.int IntKind.u8 0, Value.int IntKind.u8 0, Value.int IntKind.u8 0, Value.int IntKind.u8 0, Value.int IntKind.u8 0, Value.int IntKind.u8 0, Value.int IntKind.u8 0, Value.int IntKind.u8 0] 5) rfl rfl (by kernel_rfl) ?_ ?_
    · intro gm w211 HZ _ hb111
      replace HZ : Z32 w211 gm := HZ
      replace RC := RC.keep hb111
      replace RD := RD.keep hb111
      replace O := O.trans (hb111.mono O.size)
      clear hb111
      refine wpAny_ready (rs := [0, 3, 9]) (by kernel_rfl) (by simp) ?_
      refine ready_load rfl rfl 27 _ rfl ga (by kernel_rfl) 27 (arr 4 x) (0, 0) _ RC Try.underlying27 rfl (info27 _) ?_ ?_
      · skip
        refine wpAny_ready (rs := [1, 3, 9]) (by kernel_rfl) (by simp) ?_
        refine ready_call 22 #[.agg (arr 4 x)] rfl rfl (by kernel_rfl) ?_ ?_
        · refine (F.out.by1 _).mono ?_
          rintro _ w213 ⟨rfl, hb113⟩
          refine ⟨_, rfl, ?_⟩
          replace RC := RC.keep hb113
          replace RD := RD.keep hb113
          replace HZ := HZ.keep hb113
          replace O := O.trans (hb113.mono O.size)
          clear hb113
          refine wpAny_ready (rs := [3, 9]) (by kernel_rfl) (by simp) ?_
          refine ready_to (.string zS) _ rfl rfl (run_conv _ rfl (by kernel_rfl) HZ) ?_ ?_
          · skip
            refine wpAny_ready (rs := [4, 9]) (by kernel_rfl) (by simp) ?_
            refine ready_to (.string (b ++ zS)) _ rfl rfl (run_cat b zS _ _ _ rfl (by kernel_rfl) (by kernel_rfl) F.out.bsz zS_size) ?_ ?_
            · skip
              refine wpAny_ready (rs := [5, 9]) (by kernel_rfl) (by simp) ?_
              refine ready_call 7 #[.string (b ++ zS)] rfl rfl (by kernel_rfl) ?_ ?_
              · refine (F.out.d2 _).mono ?_
                rintro _ w216 ⟨rfl, hb116⟩
                refine ⟨_, rfl, ?_⟩
                replace RC := RC.keep hb116
                replace RD := RD.keep hb116
                replace HZ := HZ.keep hb116
                replace O := O.trans (hb116.mono O.size)
                clear hb116
                refine wpAny_take (i := 6) (v := .tuple #[.agg (arr 4 x), .int .i64 0]) rfl (by kernel_rfl) (by kernel_rfl) (by kernel_rfl) (fun _ _ _ h => h) (Or.inl ⟨by rfl, fun _ => by kernel_rfl⟩) ?_
                refine wpAny_take (i := 7) (v := .agg (arr 4 x)) rfl (by kernel_rfl) (by kernel_rfl) (by kernel_rfl) (fun _ _ _ h => h) (Or.inl ⟨by rfl, fun _ => by kernel_rfl⟩) ?_
                refine wpAny_take (i := 8) (v := .int .i64 0) rfl (by kernel_rfl) (by kernel_rfl) (by kernel_rfl) (fun _ _ _ h => h) (Or.inl ⟨by rfl, fun _ => by kernel_rfl⟩) ?_
                refine wpAny_ready (rs := [9]) (by kernel_rfl) (by simp) ?_
                refine ready_new (fun g => .pointer (some ⟨g, 0, none⟩)) (.cells #[Value.int IntKind.u64 0, Value.int IntKind.u64 0, Value.int IntKind.u64 0, Value.int IntKind.u64 0] 27) rfl rfl (by kernel_rfl) ?_ ?_
                · intro ge w217 RE n0 hb117
                  replace RE : Row w217 ge 27 4 (fun _ => 0) := RE
                  have n1 := RC.lt
                  have n2 := RD.lt
                  have n3 := O.size
                  replace RC := RC.keep hb117
                  replace RD := RD.keep hb117
                  replace HZ := HZ.keep hb117
                  replace O := O.trans (hb117.mono O.size)
                  clear hb117
                  refine wpAny_ready (rs := [10]) (by kernel_rfl) (by simp) ?_
                  refine ready_put (f' := x) RE rfl rfl 27 _ _ rfl (by kernel_rfl) (by kernel_rfl) (info27 _) ?_ ?_
                  · intro w218 RG ho hu
                    replace RC := RC.at_ (ho ga (by omega))
                    replace RD := RD.at_ (ho gd (by omega))
                    replace O := hu _ _ (by omega) O
                    clear ho hu
                    refine wpAny_ready (rs := [11]) (by kernel_rfl) (by simp) ?_
                    refine ready_to (.int .i64 0) w218 rfl rfl (by kernel_rfl) ?_ ?_
                    · skip
                      exact wpAny_done (by kernel_rfl) (hrest _ _ ⟨gm, ge, by kernel_rfl, RC, RD, RG, O⟩) _
                    exact AllReady.nil
                  exact AllReady.nil
                exact AllReady.nil
              refine ready_new (fun g => .pointer (some ⟨g, 0, none⟩)) (.cells #[Value.int IntKind.u64 0, Value.int IntKind.u64 0, Value.int IntKind.u64 0, Value.int IntKind.u64 0] 27) rfl rfl (by kernel_rfl) ?_ ?_
              · intro ge w220 RE n0 hb120
                replace RE : Row w220 ge 27 4 (fun _ => 0) := RE
                have n1 := RC.lt
                have n2 := RD.lt
                have n3 := O.size
                replace RC := RC.keep hb120
                replace RD := RD.keep hb120
                replace HZ := HZ.keep hb120
                replace O := O.trans (hb120.mono O.size)
                clear hb120
                refine wpAny_ready (rs := [5]) (by kernel_rfl) (by simp) ?_
                refine ready_call 7 #[.string (b ++ zS)] rfl rfl (by kernel_rfl) ?_ ?_
                · refine (F.out.d2 _).mono ?_
                  rintro _ w221 ⟨rfl, hb121⟩
                  refine ⟨_, rfl, ?_⟩
                  replace RC := RC.keep hb121
                  replace RD := RD.keep hb121
                  replace HZ := HZ.keep hb121
                  replace RE := RE.keep hb121
                  replace O := O.trans (hb121.mono O.size)
                  clear hb121
                  refine wpAny_take (i := 6) (v := .tuple #[.agg (arr 4 x), .int .i64 0]) rfl (by kernel_rfl) (by kernel_rfl) (by kernel_rfl) (fun _ _ _ h => h) (Or.inl ⟨by rfl, fun _ => by kernel_rfl⟩) ?_
                  refine wpAny_take (i := 7) (v := .agg (arr 4 x)) rfl (by kernel_rfl) (by kernel_rfl) (by kernel_rfl) (fun _ _ _ h => h) (Or.inl ⟨by rfl, fun _ => by kernel_rfl⟩) ?_
                  refine wpAny_take (i := 8) (v := .int .i64 0) rfl (by kernel_rfl) (by kernel_rfl) (by kernel_rfl) (fun _ _ _ h => h) (Or.inl ⟨by rfl, fun _ => by kernel_rfl⟩) ?_
                  refine wpAny_ready (rs := [10]) (by kernel_rfl) (by simp) ?_
                  refine ready_put (f' := x) RE rfl rfl 27 _ _ rfl (by kernel_rfl) (by kernel_rfl) (info27 _) ?_ ?_
                  · intro w222 RG ho hu
                    replace RC := RC.at_ (ho ga (by omega))
                    replace RD := RD.at_ (ho gd (by omega))
                    replace O := hu _ _ (by omega) O
                    clear ho hu
                    refine wpAny_ready (rs := [11]) (by kernel_rfl) (by simp) ?_
                    refine ready_to (.int .i64 0) w222 rfl rfl (by kernel_rfl) ?_ ?_
                    · skip
                      exact wpAny_done (by kernel_rfl) (hrest _ _ ⟨gm, ge, by kernel_rfl, RC, RD, RG, O⟩) _
                    exact AllReady.nil
                  exact AllReady.nil
                exact AllReady.nil
              exact AllReady.nil
            refine ready_new (fun g => .pointer (some ⟨g, 0, none⟩)) (.cells #[Value.int IntKind.u64 0, Value.int IntKind.u64 0, Value.int IntKind.u64 0, Value.int IntKind.u64 0] 27) rfl rfl (by kernel_rfl) ?_ ?_
            · intro ge w224 RE n0 hb124
              replace RE : Row w224 ge 27 4 (fun _ => 0) := RE
              have n1 := RC.lt
              have n2 := RD.lt
              have n3 := O.size
              replace RC := RC.keep hb124
              replace RD := RD.keep hb124
              replace HZ := HZ.keep hb124
              replace O := O.trans (hb124.mono O.size)
              clear hb124
              refine wpAny_ready (rs := [4]) (by kernel_rfl) (by simp) ?_
              refine ready_to (.string (b ++ zS)) _ rfl rfl (run_cat b zS _ _ _ rfl (by kernel_rfl) (by kernel_rfl) F.out.bsz zS_size) ?_ ?_
              · skip
                refine wpAny_ready (rs := [5]) (by kernel_rfl) (by simp) ?_
                refine ready_call 7 #[.string (b ++ zS)] rfl rfl (by kernel_rfl) ?_ ?_
                · refine (F.out.d2 _).mono ?_
                  rintro _ w226 ⟨rfl, hb126⟩
                  refine ⟨_, rfl, ?_⟩
                  replace RC := RC.keep hb126
                  replace RD := RD.keep hb126
                  replace HZ := HZ.keep hb126
                  replace RE := RE.keep hb126
                  replace O := O.trans (hb126.mono O.size)
                  clear hb126
                  refine wpAny_take (i := 6) (v := .tuple #[.agg (arr 4 x), .int .i64 0]) rfl (by kernel_rfl) (by kernel_rfl) (by kernel_rfl) (fun _ _ _ h => h) (Or.inl ⟨by rfl, fun _ => by kernel_rfl⟩) ?_
                  refine wpAny_take (i := 7) (v := .agg (arr 4 x)) rfl (by kernel_rfl) (by kernel_rfl) (by kernel_rfl) (fun _ _ _ h => h) (Or.inl ⟨by rfl, fun _ => by kernel_rfl⟩) ?_
                  refine wpAny_take (i := 8) (v := .int .i64 0) rfl (by kernel_rfl) (by kernel_rfl) (by kernel_rfl) (fun _ _ _ h => h) (Or.inl ⟨by rfl, fun _ => by kernel_rfl⟩) ?_
                  refine wpAny_ready (rs := [10]) (by kernel_rfl) (by simp) ?_
                  refine ready_put (f' := x) RE rfl rfl 27 _ _ rfl (by kernel_rfl) (by kernel_rfl) (info27 _) ?_ ?_
                  · intro w227 RG ho hu
                    replace RC := RC.at_ (ho ga (by omega))
                    replace RD := RD.at_ (ho gd (by omega))
                    replace O := hu _ _ (by omega) O
                    clear ho hu
                    refine wpAny_ready (rs := [11]) (by kernel_rfl) (by simp) ?_
                    refine ready_to (.int .i64 0) w227 rfl rfl (by kernel_rfl) ?_ ?_
                    · skip
                      exact wpAny_done (by kernel_rfl) (hrest _ _ ⟨gm, ge, by kernel_rfl, RC, RD, RG, O⟩) _
                    exact AllReady.nil
                  exact AllReady.nil
                exact AllReady.nil
              exact AllReady.nil
            exact AllReady.nil
          refine ready_new (fun g => .pointer (some ⟨g, 0, none⟩)) (.cells #[Value.int IntKind.u64 0, Value.int IntKind.u64 0, Value.int IntKind.u64 0, Value.int IntKind.u64 0] 27) rfl rfl (by kernel_rfl) ?_ ?_
          · intro ge w229 RE n0 hb129
            replace RE : Row w229 ge 27 4 (fun _ => 0) := RE
            have n1 := RC.lt
            have n2 := RD.lt
            have n3 := O.size
            replace RC := RC.keep hb129
            replace RD := RD.keep hb129
            replace HZ := HZ.keep hb129
            replace O := O.trans (hb129.mono O.size)
            clear hb129
            refine wpAny_ready (rs := [3]) (by kernel_rfl) (by simp) ?_
            refine ready_to (.string zS) _ rfl rfl (run_conv _ rfl (by kernel_rfl) HZ) ?_ ?_
            · skip
              refine wpAny_ready (rs := [4]) (by kernel_rfl) (by simp) ?_
              refine ready_to (.string (b ++ zS)) _ rfl rfl (run_cat b zS _ _ _ rfl (by kernel_rfl) (by kernel_rfl) F.out.bsz zS_size) ?_ ?_
              · skip
                refine wpAny_ready (rs := [5]) (by kernel_rfl) (by simp) ?_
                refine ready_call 7 #[.string (b ++ zS)] rfl rfl (by kernel_rfl) ?_ ?_
                · refine (F.out.d2 _).mono ?_
                  rintro _ w232 ⟨rfl, hb132⟩
                  refine ⟨_, rfl, ?_⟩
                  replace RC := RC.keep hb132
                  replace RD := RD.keep hb132
                  replace HZ := HZ.keep hb132
                  replace RE := RE.keep hb132
                  replace O := O.trans (hb132.mono O.size)
                  clear hb132
                  refine wpAny_take (i := 6) (v := .tuple #[.agg (arr 4 x), .int .i64 0]) rfl (by kernel_rfl) (by kernel_rfl) (by kernel_rfl) (fun _ _ _ h => h) (Or.inl ⟨by rfl, fun _ => by kernel_rfl⟩) ?_
                  refine wpAny_take (i := 7) (v := .agg (arr 4 x)) rfl (by kernel_rfl) (by kernel_rfl) (by kernel_rfl) (fun _ _ _ h => h) (Or.inl ⟨by rfl, fun _ => by kernel_rfl⟩) ?_
                  refine wpAny_take (i := 8) (v := .int .i64 0) rfl (by kernel_rfl) (by kernel_rfl) (by kernel_rfl) (fun _ _ _ h => h) (Or.inl ⟨by rfl, fun _ => by kernel_rfl⟩) ?_
                  refine wpAny_ready (rs := [10]) (by kernel_rfl) (by simp) ?_
                  refine ready_put (f' := x) RE rfl rfl 27 _ _ rfl (by kernel_rfl) (by kernel_rfl) (info27 _) ?_ ?_
                  · intro w233 RG ho hu
                    replace RC := RC.at_ (ho ga (by omega))
                    replace RD := RD.at_ (ho gd (by omega))
                    replace O := hu _ _ (by omega) O
                    clear ho hu
                    refine wpAny_ready (rs := [11]) (by kernel_rfl) (by simp) ?_
                    refine ready_to (.int .i64 0) w233 rfl rfl (by kernel_rfl) ?_ ?_
                    · skip
                      exact wpAny_done (by kernel_rfl) (hrest _ _ ⟨gm, ge, by kernel_rfl, RC, RD, RG, O⟩) _
                    exact AllReady.nil
                  exact AllReady.nil
                exact AllReady.nil
              exact AllReady.nil
            exact AllReady.nil
          exact AllReady.nil
        refine ready_to (.string zS) _ rfl rfl (run_conv _ rfl (by kernel_rfl) HZ) ?_ ?_
        · skip
          refine wpAny_ready (rs := [1, 9]) (by kernel_rfl) (by simp) ?_
          refine ready_call 22 #[.agg (arr 4 x)] rfl rfl (by kernel_rfl) ?_ ?_
          · refine (F.out.by1 _).mono ?_
            rintro _ w236 ⟨rfl, hb136⟩
            refine ⟨_, rfl, ?_⟩
            replace RC := RC.keep hb136
            replace RD := RD.keep hb136
            replace HZ := HZ.keep hb136
            replace O := O.trans (hb136.mono O.size)
            clear hb136
            refine wpAny_ready (rs := [4, 9]) (by kernel_rfl) (by simp) ?_
            refine ready_to (.string (b ++ zS)) _ rfl rfl (run_cat b zS _ _ _ rfl (by kernel_rfl) (by kernel_rfl) F.out.bsz zS_size) ?_ ?_
            · skip
              refine wpAny_ready (rs := [5, 9]) (by kernel_rfl) (by simp) ?_
              refine ready_call 7 #[.string (b ++ zS)] rfl rfl (by kernel_rfl) ?_ ?_
              · refine (F.out.d2 _).mono ?_
                rintro _ w238 ⟨rfl, hb138⟩
                refine ⟨_, rfl, ?_⟩
                replace RC := RC.keep hb138
                replace RD := RD.keep hb138
                replace HZ := HZ.keep hb138
                replace O := O.trans (hb138.mono O.size)
                clear hb138
                refine wpAny_take (i := 6) (v := .tuple #[.agg (arr 4 x), .int .i64 0]) rfl (by kernel_rfl) (by kernel_rfl) (by kernel_rfl) (fun _ _ _ h => h) (Or.inl ⟨by rfl, fun _ => by kernel_rfl⟩) ?_
                refine wpAny_take (i := 7) (v := .agg (arr 4 x)) rfl (by kernel_rfl) (by kernel_rfl) (by kernel_rfl) (fun _ _ _ h => h) (Or.inl ⟨by rfl, fun _ => by kernel_rfl⟩) ?_
                refine wpAny_take (i := 8) (v := .int .i64 0) rfl (by kernel_rfl) (by kernel_rfl) (by kernel_rfl) (fun _ _ _ h => h) (Or.inl ⟨by rfl, fun _ => by kernel_rfl⟩) ?_
                refine wpAny_ready (rs := [9]) (by kernel_rfl) (by simp) ?_
                refine ready_new (fun g => .pointer (some ⟨g, 0, none⟩)) (.cells #[Value.int IntKind.u64 0, Value.int IntKind.u64 0, Value.int IntKind.u64 0, Value.int IntKind.u64 0] 27) rfl rfl (by kernel_rfl) ?_ ?_
                · intro ge w239 RE n0 hb139
                  replace RE : Row w239 ge 27 4 (fun _ => 0) := RE
                  have n1 := RC.lt
                  have n2 := RD.lt
                  have n3 := O.size
                  replace RC := RC.keep hb139
                  replace RD := RD.keep hb139
                  replace HZ := HZ.keep hb139
                  replace O := O.trans (hb139.mono O.size)
                  clear hb139
                  refine wpAny_ready (rs := [10]) (by kernel_rfl) (by simp) ?_
                  refine ready_put (f' := x) RE rfl rfl 27 _ _ rfl (by kernel_rfl) (by kernel_rfl) (info27 _) ?_ ?_
                  · intro w240 RG ho hu
                    replace RC := RC.at_ (ho ga (by omega))
                    replace RD := RD.at_ (ho gd (by omega))
                    replace O := hu _ _ (by omega) O
                    clear ho hu
                    refine wpAny_ready (rs := [11]) (by kernel_rfl) (by simp) ?_
                    refine ready_to (.int .i64 0) w240 rfl rfl (by kernel_rfl) ?_ ?_
                    · skip
                      exact wpAny_done (by kernel_rfl) (hrest _ _ ⟨gm, ge, by kernel_rfl, RC, RD, RG, O⟩) _
                    exact AllReady.nil
                  exact AllReady.nil
                exact AllReady.nil
              refine ready_new (fun g => .pointer (some ⟨g, 0, none⟩)) (.cells #[Value.int IntKind.u64 0, Value.int IntKind.u64 0, Value.int IntKind.u64 0, Value.int IntKind.u64 0] 27) rfl rfl (by kernel_rfl) ?_ ?_
              · intro ge w242 RE n0 hb142
                replace RE : Row w242 ge 27 4 (fun _ => 0) := RE
                have n1 := RC.lt
                have n2 := RD.lt
                have n3 := O.size
                replace RC := RC.keep hb142
                replace RD := RD.keep hb142
                replace HZ := HZ.keep hb142
                replace O := O.trans (hb142.mono O.size)
                clear hb142
                refine wpAny_ready (rs := [5]) (by kernel_rfl) (by simp) ?_
                refine ready_call 7 #[.string (b ++ zS)] rfl rfl (by kernel_rfl) ?_ ?_
                · refine (F.out.d2 _).mono ?_
                  rintro _ w243 ⟨rfl, hb143⟩
                  refine ⟨_, rfl, ?_⟩
                  replace RC := RC.keep hb143
                  replace RD := RD.keep hb143
                  replace HZ := HZ.keep hb143
                  replace RE := RE.keep hb143
                  replace O := O.trans (hb143.mono O.size)
                  clear hb143
                  refine wpAny_take (i := 6) (v := .tuple #[.agg (arr 4 x), .int .i64 0]) rfl (by kernel_rfl) (by kernel_rfl) (by kernel_rfl) (fun _ _ _ h => h) (Or.inl ⟨by rfl, fun _ => by kernel_rfl⟩) ?_
                  refine wpAny_take (i := 7) (v := .agg (arr 4 x)) rfl (by kernel_rfl) (by kernel_rfl) (by kernel_rfl) (fun _ _ _ h => h) (Or.inl ⟨by rfl, fun _ => by kernel_rfl⟩) ?_
                  refine wpAny_take (i := 8) (v := .int .i64 0) rfl (by kernel_rfl) (by kernel_rfl) (by kernel_rfl) (fun _ _ _ h => h) (Or.inl ⟨by rfl, fun _ => by kernel_rfl⟩) ?_
                  refine wpAny_ready (rs := [10]) (by kernel_rfl) (by simp) ?_
                  refine ready_put (f' := x) RE rfl rfl 27 _ _ rfl (by kernel_rfl) (by kernel_rfl) (info27 _) ?_ ?_
                  · intro w244 RG ho hu
                    replace RC := RC.at_ (ho ga (by omega))
                    replace RD := RD.at_ (ho gd (by omega))
                    replace O := hu _ _ (by omega) O
                    clear ho hu
                    refine wpAny_ready (rs := [11]) (by kernel_rfl) (by simp) ?_
                    refine ready_to (.int .i64 0) w244 rfl rfl (by kernel_rfl) ?_ ?_
                    · skip
                      exact wpAny_done (by kernel_rfl) (hrest _ _ ⟨gm, ge, by kernel_rfl, RC, RD, RG, O⟩) _
                    exact AllReady.nil
                  exact AllReady.nil
                exact AllReady.nil
              exact AllReady.nil
            refine ready_new (fun g => .pointer (some ⟨g, 0, none⟩)) (.cells #[Value.int IntKind.u64 0, Value.int IntKind.u64 0, Value.int IntKind.u64 0, Value.int IntKind.u64 0] 27) rfl rfl (by kernel_rfl) ?_ ?_
            · intro ge w246 RE n0 hb146
              replace RE : Row w246 ge 27 4 (fun _ => 0) := RE
              have n1 := RC.lt
              have n2 := RD.lt
              have n3 := O.size
              replace RC := RC.keep hb146
              replace RD := RD.keep hb146
              replace HZ := HZ.keep hb146
              replace O := O.trans (hb146.mono O.size)
              clear hb146
              refine wpAny_ready (rs := [4]) (by kernel_rfl) (by simp) ?_
              refine ready_to (.string (b ++ zS)) _ rfl rfl (run_cat b zS _ _ _ rfl (by kernel_rfl) (by kernel_rfl) F.out.bsz zS_size) ?_ ?_
              · skip
                refine wpAny_ready (rs := [5]) (by kernel_rfl) (by simp) ?_
                refine ready_call 7 #[.string (b ++ zS)] rfl rfl (by kernel_rfl) ?_ ?_
                · refine (F.out.d2 _).mono ?_
                  rintro _ w248 ⟨rfl, hb148⟩
                  refine ⟨_, rfl, ?_⟩
                  replace RC := RC.keep hb148
                  replace RD := RD.keep hb148
                  replace HZ := HZ.keep hb148
                  replace RE := RE.keep hb148
                  replace O := O.trans (hb148.mono O.size)
                  clear hb148
                  refine wpAny_take (i := 6) (v := .tuple #[.agg (arr 4 x), .int .i64 0]) rfl (by kernel_rfl) (by kernel_rfl) (by kernel_rfl) (fun _ _ _ h => h) (Or.inl ⟨by rfl, fun _ => by kernel_rfl⟩) ?_
                  refine wpAny_take (i := 7) (v := .agg (arr 4 x)) rfl (by kernel_rfl) (by kernel_rfl) (by kernel_rfl) (fun _ _ _ h => h) (Or.inl ⟨by rfl, fun _ => by kernel_rfl⟩) ?_
                  refine wpAny_take (i := 8) (v := .int .i64 0) rfl (by kernel_rfl) (by kernel_rfl) (by kernel_rfl) (fun _ _ _ h => h) (Or.inl ⟨by rfl, fun _ => by kernel_rfl⟩) ?_
                  refine wpAny_ready (rs := [10]) (by kernel_rfl) (by simp) ?_
                  refine ready_put (f' := x) RE rfl rfl 27 _ _ rfl (by kernel_rfl) (by kernel_rfl) (info27 _) ?_ ?_
                  · intro w249 RG ho hu
                    replace RC := RC.at_ (ho ga (by omega))
                    replace RD := RD.at_ (ho gd (by omega))
                    replace O := hu _ _ (by omega) O
                    clear ho hu
                    refine wpAny_ready (rs := [11]) (by kernel_rfl) (by simp) ?_
                    refine ready_to (.int .i64 0) w249 rfl rfl (by kernel_rfl) ?_ ?_
                    · skip
                      exact wpAny_done (by kernel_rfl) (hrest _ _ ⟨gm, ge, by kernel_rfl, RC, RD, RG, O⟩) _
                    exact AllReady.nil
                  exact AllReady.nil
                exact AllReady.nil
              exact AllReady.nil
            exact AllReady.nil
          refine ready_new (fun g => .pointer (some ⟨g, 0, none⟩)) (.cells #[Value.int IntKind.u64 0, Value.int IntKind.u64 0, Value.int IntKind.u64 0, Value.int IntKind.u64 0] 27) rfl rfl (by kernel_rfl) ?_ ?_
          · intro ge w251 RE n0 hb151
            replace RE : Row w251 ge 27 4 (fun _ => 0) := RE
            have n1 := RC.lt
            have n2 := RD.lt
            have n3 := O.size
            replace RC := RC.keep hb151
            replace RD := RD.keep hb151
            replace HZ := HZ.keep hb151
            replace O := O.trans (hb151.mono O.size)
            clear hb151
            refine wpAny_ready (rs := [1]) (by kernel_rfl) (by simp) ?_
            refine ready_call 22 #[.agg (arr 4 x)] rfl rfl (by kernel_rfl) ?_ ?_
            · refine (F.out.by1 _).mono ?_
              rintro _ w252 ⟨rfl, hb152⟩
              refine ⟨_, rfl, ?_⟩
              replace RC := RC.keep hb152
              replace RD := RD.keep hb152
              replace HZ := HZ.keep hb152
              replace RE := RE.keep hb152
              replace O := O.trans (hb152.mono O.size)
              clear hb152
              refine wpAny_ready (rs := [4]) (by kernel_rfl) (by simp) ?_
              refine ready_to (.string (b ++ zS)) _ rfl rfl (run_cat b zS _ _ _ rfl (by kernel_rfl) (by kernel_rfl) F.out.bsz zS_size) ?_ ?_
              · skip
                refine wpAny_ready (rs := [5]) (by kernel_rfl) (by simp) ?_
                refine ready_call 7 #[.string (b ++ zS)] rfl rfl (by kernel_rfl) ?_ ?_
                · refine (F.out.d2 _).mono ?_
                  rintro _ w254 ⟨rfl, hb154⟩
                  refine ⟨_, rfl, ?_⟩
                  replace RC := RC.keep hb154
                  replace RD := RD.keep hb154
                  replace HZ := HZ.keep hb154
                  replace RE := RE.keep hb154
                  replace O := O.trans (hb154.mono O.size)
                  clear hb154
                  refine wpAny_take (i := 6) (v := .tuple #[.agg (arr 4 x), .int .i64 0]) rfl (by kernel_rfl) (by kernel_rfl) (by kernel_rfl) (fun _ _ _ h => h) (Or.inl ⟨by rfl, fun _ => by kernel_rfl⟩) ?_
                  refine wpAny_take (i := 7) (v := .agg (arr 4 x)) rfl (by kernel_rfl) (by kernel_rfl) (by kernel_rfl) (fun _ _ _ h => h) (Or.inl ⟨by rfl, fun _ => by kernel_rfl⟩) ?_
                  refine wpAny_take (i := 8) (v := .int .i64 0) rfl (by kernel_rfl) (by kernel_rfl) (by kernel_rfl) (fun _ _ _ h => h) (Or.inl ⟨by rfl, fun _ => by kernel_rfl⟩) ?_
                  refine wpAny_ready (rs := [10]) (by kernel_rfl) (by simp) ?_
                  refine ready_put (f' := x) RE rfl rfl 27 _ _ rfl (by kernel_rfl) (by kernel_rfl) (info27 _) ?_ ?_
                  · intro w255 RG ho hu
                    replace RC := RC.at_ (ho ga (by omega))
                    replace RD := RD.at_ (ho gd (by omega))
                    replace O := hu _ _ (by omega) O
                    clear ho hu
                    refine wpAny_ready (rs := [11]) (by kernel_rfl) (by simp) ?_
                    refine ready_to (.int .i64 0) w255 rfl rfl (by kernel_rfl) ?_ ?_
                    · skip
                      exact wpAny_done (by kernel_rfl) (hrest _ _ ⟨gm, ge, by kernel_rfl, RC, RD, RG, O⟩) _
                    exact AllReady.nil
                  exact AllReady.nil
                exact AllReady.nil
              exact AllReady.nil
            exact AllReady.nil
          exact AllReady.nil
        refine ready_new (fun g => .pointer (some ⟨g, 0, none⟩)) (.cells #[Value.int IntKind.u64 0, Value.int IntKind.u64 0, Value.int IntKind.u64 0, Value.int IntKind.u64 0] 27) rfl rfl (by kernel_rfl) ?_ ?_
        · intro ge w257 RE n0 hb157
          replace RE : Row w257 ge 27 4 (fun _ => 0) := RE
          have n1 := RC.lt
          have n2 := RD.lt
          have n3 := O.size
          replace RC := RC.keep hb157
          replace RD := RD.keep hb157
          replace HZ := HZ.keep hb157
          replace O := O.trans (hb157.mono O.size)
          clear hb157
          refine wpAny_ready (rs := [1, 3]) (by kernel_rfl) (by simp) ?_
          refine ready_call 22 #[.agg (arr 4 x)] rfl rfl (by kernel_rfl) ?_ ?_
          · refine (F.out.by1 _).mono ?_
            rintro _ w258 ⟨rfl, hb158⟩
            refine ⟨_, rfl, ?_⟩
            replace RC := RC.keep hb158
            replace RD := RD.keep hb158
            replace HZ := HZ.keep hb158
            replace RE := RE.keep hb158
            replace O := O.trans (hb158.mono O.size)
            clear hb158
            refine wpAny_ready (rs := [3]) (by kernel_rfl) (by simp) ?_
            refine ready_to (.string zS) _ rfl rfl (run_conv _ rfl (by kernel_rfl) HZ) ?_ ?_
            · skip
              refine wpAny_ready (rs := [4]) (by kernel_rfl) (by simp) ?_
              refine ready_to (.string (b ++ zS)) _ rfl rfl (run_cat b zS _ _ _ rfl (by kernel_rfl) (by kernel_rfl) F.out.bsz zS_size) ?_ ?_
              · skip
                refine wpAny_ready (rs := [5]) (by kernel_rfl) (by simp) ?_
                refine ready_call 7 #[.string (b ++ zS)] rfl rfl (by kernel_rfl) ?_ ?_
                · refine (F.out.d2 _).mono ?_
                  rintro _ w261 ⟨rfl, hb161⟩
                  refine ⟨_, rfl, ?_⟩
                  replace RC := RC.keep hb161
                  replace RD := RD.keep hb161
                  replace HZ := HZ.keep hb161
                  replace RE := RE.keep hb161
                  replace O := O.trans (hb161.mono O.size)
                  clear hb161
                  refine wpAny_take (i := 6) (v := .tuple #[.agg (arr 4 x), .int .i64 0]) rfl (by kernel_rfl) (by kernel_rfl) (by kernel_rfl) (fun _ _ _ h => h) (Or.inl ⟨by rfl, fun _ => by kernel_rfl⟩) ?_
                  refine wpAny_take (i := 7) (v := .agg (arr 4 x)) rfl (by kernel_rfl) (by kernel_rfl) (by kernel_rfl) (fun _ _ _ h => h) (Or.inl ⟨by rfl, fun _ => by kernel_rfl⟩) ?_
                  refine wpAny_take (i := 8) (v := .int .i64 0) rfl (by kernel_rfl) (by kernel_rfl) (by kernel_rfl) (fun _ _ _ h => h) (Or.inl ⟨by rfl, fun _ => by kernel_rfl⟩) ?_
                  refine wpAny_ready (rs := [10]) (by kernel_rfl) (by simp) ?_
                  refine ready_put (f' := x) RE rfl rfl 27 _ _ rfl (by kernel_rfl) (by kernel_rfl) (info27 _) ?_ ?_
                  · intro w262 RG ho hu
                    replace RC := RC.at_ (ho ga (by omega))
                    replace RD := RD.at_ (ho gd (by omega))
                    replace O := hu _ _ (by omega) O
                    clear ho hu
                    refine wpAny_ready (rs := [11]) (by kernel_rfl) (by simp) ?_
                    refine ready_to (.int .i64 0) w262 rfl rfl (by kernel_rfl) ?_ ?_
                    · skip
                      exact wpAny_done (by kernel_rfl) (hrest _ _ ⟨gm, ge, by kernel_rfl, RC, RD, RG, O⟩) _
                    exact AllReady.nil
                  exact AllReady.nil
                exact AllReady.nil
              exact AllReady.nil
            exact AllReady.nil
          refine ready_to (.string zS) _ rfl rfl (run_conv _ rfl (by kernel_rfl) HZ) ?_ ?_
          · skip
            refine wpAny_ready (rs := [1]) (by kernel_rfl) (by simp) ?_
            refine ready_call 22 #[.agg (arr 4 x)] rfl rfl (by kernel_rfl) ?_ ?_
            · refine (F.out.by1 _).mono ?_
              rintro _ w265 ⟨rfl, hb165⟩
              refine ⟨_, rfl, ?_⟩
              replace RC := RC.keep hb165
              replace RD := RD.keep hb165
              replace HZ := HZ.keep hb165
              replace RE := RE.keep hb165
              replace O := O.trans (hb165.mono O.size)
              clear hb165
              refine wpAny_ready (rs := [4]) (by kernel_rfl) (by simp) ?_
              refine ready_to (.string (b ++ zS)) _ rfl rfl (run_cat b zS _ _ _ rfl (by kernel_rfl) (by kernel_rfl) F.out.bsz zS_size) ?_ ?_
              · skip
                refine wpAny_ready (rs := [5]) (by kernel_rfl) (by simp) ?_
                refine ready_call 7 #[.string (b ++ zS)] rfl rfl (by kernel_rfl) ?_ ?_
                · refine (F.out.d2 _).mono ?_
                  rintro _ w267 ⟨rfl, hb167⟩
                  refine ⟨_, rfl, ?_⟩
                  replace RC := RC.keep hb167
                  replace RD := RD.keep hb167
                  replace HZ := HZ.keep hb167
                  replace RE := RE.keep hb167
                  replace O := O.trans (hb167.mono O.size)
                  clear hb167
                  refine wpAny_take (i := 6) (v := .tuple #[.agg (arr 4 x), .int .i64 0]) rfl (by kernel_rfl) (by kernel_rfl) (by kernel_rfl) (fun _ _ _ h => h) (Or.inl ⟨by rfl, fun _ => by kernel_rfl⟩) ?_
                  refine wpAny_take (i := 7) (v := .agg (arr 4 x)) rfl (by kernel_rfl) (by kernel_rfl) (by kernel_rfl) (fun _ _ _ h => h) (Or.inl ⟨by rfl, fun _ => by kernel_rfl⟩) ?_
                  refine wpAny_take (i := 8) (v := .int .i64 0) rfl (by kernel_rfl) (by kernel_rfl) (by kernel_rfl) (fun _ _ _ h => h) (Or.inl ⟨by rfl, fun _ => by kernel_rfl⟩) ?_
                  refine wpAny_ready (rs := [10]) (by kernel_rfl) (by simp) ?_
                  refine ready_put (f' := x) RE rfl rfl 27 _ _ rfl (by kernel_rfl) (by kernel_rfl) (info27 _) ?_ ?_
                  · intro w268 RG ho hu
                    replace RC := RC.at_ (ho ga (by omega))
                    replace RD := RD.at_ (ho gd (by omega))
                    replace O := hu _ _ (by omega) O
                    clear ho hu
                    refine wpAny_ready (rs := [11]) (by kernel_rfl) (by simp) ?_
                    refine ready_to (.int .i64 0) w268 rfl rfl (by kernel_rfl) ?_ ?_
                    · skip
                      exact wpAny_done (by kernel_rfl) (hrest _ _ ⟨gm, ge, by kernel_rfl, RC, RD, RG, O⟩) _
                    exact AllReady.nil
                  exact AllReady.nil
                exact AllReady.nil
              exact AllReady.nil
            exact AllReady.nil
          exact AllReady.nil
        exact AllReady.nil
      refine ready_to (.string zS) _ rfl rfl (run_conv _ rfl (by kernel_rfl) HZ) ?_ ?_
      · skip
        refine wpAny_ready (rs := [0, 9]) (by kernel_rfl) (by simp) ?_
        refine ready_load rfl rfl 27 _ rfl ga (by kernel_rfl) 27 (arr 4 x) (0, 0) _ RC Try.underlying27 rfl (info27 _) ?_ ?_
        · skip
          refine wpAny_ready (rs := [1, 9]) (by kernel_rfl) (by simp) ?_
          refine ready_call 22 #[.agg (arr 4 x)] rfl rfl (by kernel_rfl) ?_ ?_
          · refine (F.out.by1 _).mono ?_
            rintro _ w272 ⟨rfl, hb172⟩
            refine ⟨_, rfl, ?_⟩
            replace RC := RC.keep hb172
            replace RD := RD.keep hb172
            replace HZ := HZ.keep hb172
            replace O := O.trans (hb172.mono O.size)
            clear hb172
            refine wpAny_ready (rs := [4, 9]) (by kernel_rfl) (by simp) ?_
            refine ready_to (.string (b ++ zS)) _ rfl rfl (run_cat b zS _ _ _ rfl (by kernel_rfl) (by kernel_rfl) F.out.bsz zS_size) ?_ ?_
            · skip
              refine wpAny_ready (rs := [5, 9]) (by kernel_rfl) (by simp) ?_
              refine ready_call 7 #[.string (b ++ zS)] rfl rfl (by kernel_rfl) ?_ ?_
              · refine (F.out.d2 _).mono ?_
                rintro _ w274 ⟨rfl, hb174⟩
                refine ⟨_, rfl, ?_⟩
                replace RC := RC.keep hb174
                replace RD := RD.keep hb174
                replace HZ := HZ.keep hb174
                replace O := O.trans (hb174.mono O.size)
                clear hb174
                refine wpAny_take (i := 6) (v := .tuple #[.agg (arr 4 x), .int .i64 0]) rfl (by kernel_rfl) (by kernel_rfl) (by kernel_rfl) (fun _ _ _ h => h) (Or.inl ⟨by rfl, fun _ => by kernel_rfl⟩) ?_
                refine wpAny_take (i := 7) (v := .agg (arr 4 x)) rfl (by kernel_rfl) (by kernel_rfl) (by kernel_rfl) (fun _ _ _ h => h) (Or.inl ⟨by rfl, fun _ => by kernel_rfl⟩) ?_
                refine wpAny_take (i := 8) (v := .int .i64 0) rfl (by kernel_rfl) (by kernel_rfl) (by kernel_rfl) (fun _ _ _ h => h) (Or.inl ⟨by rfl, fun _ => by kernel_rfl⟩) ?_
                refine wpAny_ready (rs := [9]) (by kernel_rfl) (by simp) ?_
                refine ready_new (fun g => .pointer (some ⟨g, 0, none⟩)) (.cells #[Value.int IntKind.u64 0, Value.int IntKind.u64 0, Value.int IntKind.u64 0, Value.int IntKind.u64 0] 27) rfl rfl (by kernel_rfl) ?_ ?_
                · intro ge w275 RE n0 hb175
                  replace RE : Row w275 ge 27 4 (fun _ => 0) := RE
                  have n1 := RC.lt
                  have n2 := RD.lt
                  have n3 := O.size
                  replace RC := RC.keep hb175
                  replace RD := RD.keep hb175
                  replace HZ := HZ.keep hb175
                  replace O := O.trans (hb175.mono O.size)
                  clear hb175
                  refine wpAny_ready (rs := [10]) (by kernel_rfl) (by simp) ?_
                  refine ready_put (f' := x) RE rfl rfl 27 _ _ rfl (by kernel_rfl) (by kernel_rfl) (info27 _) ?_ ?_
                  · intro w276 RG ho hu
                    replace RC := RC.at_ (ho ga (by omega))
                    replace RD := RD.at_ (ho gd (by omega))
                    replace O := hu _ _ (by omega) O
                    clear ho hu
                    refine wpAny_ready (rs := [11]) (by kernel_rfl) (by simp) ?_
                    refine ready_to (.int .i64 0) w276 rfl rfl (by kernel_rfl) ?_ ?_
                    · skip
                      exact wpAny_done (by kernel_rfl) (hrest _ _ ⟨gm, ge, by kernel_rfl, RC, RD, RG, O⟩) _
                    exact AllReady.nil
                  exact AllReady.nil
                exact AllReady.nil
              refine ready_new (fun g => .pointer (some ⟨g, 0, none⟩)) (.cells #[Value.int IntKind.u64 0, Value.int IntKind.u64 0, Value.int IntKind.u64 0, Value.int IntKind.u64 0] 27) rfl rfl (by kernel_rfl) ?_ ?_
              · intro ge w278 RE n0 hb178
                replace RE : Row w278 ge 27 4 (fun _ => 0) := RE
                have n1 := RC.lt
                have n2 := RD.lt
                have n3 := O.size
                replace RC := RC.keep hb178
                replace RD := RD.keep hb178
                replace HZ := HZ.keep hb178
                replace O := O.trans (hb178.mono O.size)
                clear hb178
                refine wpAny_ready (rs := [5]) (by kernel_rfl) (by simp) ?_
                refine ready_call 7 #[.string (b ++ zS)] rfl rfl (by kernel_rfl) ?_ ?_
                · refine (F.out.d2 _).mono ?_
                  rintro _ w279 ⟨rfl, hb179⟩
                  refine ⟨_, rfl, ?_⟩
                  replace RC := RC.keep hb179
                  replace RD := RD.keep hb179
                  replace HZ := HZ.keep hb179
                  replace RE := RE.keep hb179
                  replace O := O.trans (hb179.mono O.size)
                  clear hb179
                  refine wpAny_take (i := 6) (v := .tuple #[.agg (arr 4 x), .int .i64 0]) rfl (by kernel_rfl) (by kernel_rfl) (by kernel_rfl) (fun _ _ _ h => h) (Or.inl ⟨by rfl, fun _ => by kernel_rfl⟩) ?_
                  refine wpAny_take (i := 7) (v := .agg (arr 4 x)) rfl (by kernel_rfl) (by kernel_rfl) (by kernel_rfl) (fun _ _ _ h => h) (Or.inl ⟨by rfl, fun _ => by kernel_rfl⟩) ?_
                  refine wpAny_take (i := 8) (v := .int .i64 0) rfl (by kernel_rfl) (by kernel_rfl) (by kernel_rfl) (fun _ _ _ h => h) (Or.inl ⟨by rfl, fun _ => by kernel_rfl⟩) ?_
                  refine wpAny_ready (rs := [10]) (by kernel_rfl) (by simp) ?_
                  refine ready_put (f' := x) RE rfl rfl 27 _ _ rfl (by kernel_rfl) (by kernel_rfl) (info27 _) ?_ ?_
                  · intro w280 RG ho hu
                    replace RC := RC.at_ (ho ga (by omega))
                    replace RD := RD.at_ (ho gd (by omega))
                    replace O := hu _ _ (by omega) O
                    clear ho hu
                    refine wpAny_ready (rs := [11]) (by kernel_rfl) (by simp) ?_
                    refine ready_to (.int .i64 0) w280 rfl rfl (by kernel_rfl) ?_ ?_
                    · skip
                      exact wpAny_done (by kernel_rfl) (hrest _ _ ⟨gm, ge, by kernel_rfl, RC, RD, RG, O⟩) _
                    exact AllReady.nil
                  exact AllReady.nil
                exact AllReady.nil
              exact AllReady.nil
            refine ready_new (fun g => .pointer (some ⟨g, 0, none⟩)) (.cells #[Value.int IntKind.u64 0, Value.int IntKind.u64 0, Value.int IntKind.u64 0, Value.int IntKind.u64 0] 27) rfl rfl (by kernel_rfl) ?_ ?_
            · intro ge w282 RE n0 hb182
              replace RE : Row w282 ge 27 4 (fun _ => 0) := RE
              have n1 := RC.lt
              have n2 := RD.lt
              have n3 := O.size
              replace RC := RC.keep hb182
              replace RD := RD.keep hb182
              replace HZ := HZ.keep hb182
              replace O := O.trans (hb182.mono O.size)
              clear hb182
              refine wpAny_ready (rs := [4]) (by kernel_rfl) (by simp) ?_
              refine ready_to (.string (b ++ zS)) _ rfl rfl (run_cat b zS _ _ _ rfl (by kernel_rfl) (by kernel_rfl) F.out.bsz zS_size) ?_ ?_
              · skip
                refine wpAny_ready (rs := [5]) (by kernel_rfl) (by simp) ?_
                refine ready_call 7 #[.string (b ++ zS)] rfl rfl (by kernel_rfl) ?_ ?_
                · refine (F.out.d2 _).mono ?_
                  rintro _ w284 ⟨rfl, hb184⟩
                  refine ⟨_, rfl, ?_⟩
                  replace RC := RC.keep hb184
                  replace RD := RD.keep hb184
                  replace HZ := HZ.keep hb184
                  replace RE := RE.keep hb184
                  replace O := O.trans (hb184.mono O.size)
                  clear hb184
                  refine wpAny_take (i := 6) (v := .tuple #[.agg (arr 4 x), .int .i64 0]) rfl (by kernel_rfl) (by kernel_rfl) (by kernel_rfl) (fun _ _ _ h => h) (Or.inl ⟨by rfl, fun _ => by kernel_rfl⟩) ?_
                  refine wpAny_take (i := 7) (v := .agg (arr 4 x)) rfl (by kernel_rfl) (by kernel_rfl) (by kernel_rfl) (fun _ _ _ h => h) (Or.inl ⟨by rfl, fun _ => by kernel_rfl⟩) ?_
                  refine wpAny_take (i := 8) (v := .int .i64 0) rfl (by kernel_rfl) (by kernel_rfl) (by kernel_rfl) (fun _ _ _ h => h) (Or.inl ⟨by rfl, fun _ => by kernel_rfl⟩) ?_
                  refine wpAny_ready (rs := [10]) (by kernel_rfl) (by simp) ?_
                  refine ready_put (f' := x) RE rfl rfl 27 _ _ rfl (by kernel_rfl) (by kernel_rfl) (info27 _) ?_ ?_
                  · intro w285 RG ho hu
                    replace RC := RC.at_ (ho ga (by omega))
                    replace RD := RD.at_ (ho gd (by omega))
                    replace O := hu _ _ (by omega) O
                    clear ho hu
                    refine wpAny_ready (rs := [11]) (by kernel_rfl) (by simp) ?_
                    refine ready_to (.int .i64 0) w285 rfl rfl (by kernel_rfl) ?_ ?_
                    · skip
                      exact wpAny_done (by kernel_rfl) (hrest _ _ ⟨gm, ge, by kernel_rfl, RC, RD, RG, O⟩) _
                    exact AllReady.nil
                  exact AllReady.nil
                exact AllReady.nil
              exact AllReady.nil
            exact AllReady.nil
          refine ready_new (fun g => .pointer (some ⟨g, 0, none⟩)) (.cells #[Value.int IntKind.u64 0, Value.int IntKind.u64 0, Value.int IntKind.u64 0, Value.int IntKind.u64 0] 27) rfl rfl (by kernel_rfl) ?_ ?_
          · intro ge w287 RE n0 hb187
            replace RE : Row w287 ge 27 4 (fun _ => 0) := RE
            have n1 := RC.lt
            have n2 := RD.lt
            have n3 := O.size
            replace RC := RC.keep hb187
            replace RD := RD.keep hb187
            replace HZ := HZ.keep hb187
            replace O := O.trans (hb187.mono O.size)
            clear hb187
            refine wpAny_ready (rs := [1]) (by kernel_rfl) (by simp) ?_
            refine ready_call 22 #[.agg (arr 4 x)] rfl rfl (by kernel_rfl) ?_ ?_
            · refine (F.out.by1 _).mono ?_
              rintro _ w288 ⟨rfl, hb188⟩
              refine ⟨_, rfl, ?_⟩
              replace RC := RC.keep hb188
              replace RD := RD.keep hb188
              replace HZ := HZ.keep hb188
              replace RE := RE.keep hb188
              replace O := O.trans (hb188.mono O.size)
              clear hb188
              refine wpAny_ready (rs := [4]) (by kernel_rfl) (by simp) ?_
              refine ready_to (.string (b ++ zS)) _ rfl rfl (run_cat b zS _ _ _ rfl (by kernel_rfl) (by kernel_rfl) F.out.bsz zS_size) ?_ ?_
              · skip
                refine wpAny_ready (rs := [5]) (by kernel_rfl) (by simp) ?_
                refine ready_call 7 #[.string (b ++ zS)] rfl rfl (by kernel_rfl) ?_ ?_
                · refine (F.out.d2 _).mono ?_
                  rintro _ w290 ⟨rfl, hb190⟩
                  refine ⟨_, rfl, ?_⟩
                  replace RC := RC.keep hb190
                  replace RD := RD.keep hb190
                  replace HZ := HZ.keep hb190
                  replace RE := RE.keep hb190
                  replace O := O.trans (hb190.mono O.size)
                  clear hb190
                  refine wpAny_take (i := 6) (v := .tuple #[.agg (arr 4 x), .int .i64 0]) rfl (by kernel_rfl) (by kernel_rfl) (by kernel_rfl) (fun _ _ _ h => h) (Or.inl ⟨by rfl, fun _ => by kernel_rfl⟩) ?_
                  refine wpAny_take (i := 7) (v := .agg (arr 4 x)) rfl (by kernel_rfl) (by kernel_rfl) (by kernel_rfl) (fun _ _ _ h => h) (Or.inl ⟨by rfl, fun _ => by kernel_rfl⟩) ?_
                  refine wpAny_take (i := 8) (v := .int .i64 0) rfl (by kernel_rfl) (by kernel_rfl) (by kernel_rfl) (fun _ _ _ h => h) (Or.inl ⟨by rfl, fun _ => by kernel_rfl⟩) ?_
                  refine wpAny_ready (rs := [10]) (by kernel_rfl) (by simp) ?_
                  refine ready_put (f' := x) RE rfl rfl 27 _ _ rfl (by kernel_rfl) (by kernel_rfl) (info27 _) ?_ ?_
                  · intro w291 RG ho hu
                    replace RC := RC.at_ (ho ga (by omega))
                    replace RD := RD.at_ (ho gd (by omega))
                    replace O := hu _ _ (by omega) O
                    clear ho hu
                    refine wpAny_ready (rs := [11]) (by kernel_rfl) (by simp) ?_
                    refine ready_to (.int .i64 0) w291 rfl rfl (by kernel_rfl) ?_ ?_
                    · skip
                      exact wpAny_done (by kernel_rfl) (hrest _ _ ⟨gm, ge, by kernel_rfl, RC, RD, RG, O⟩) _
                    exact AllReady.nil
                  exact AllReady.nil
                exact AllReady.nil
              exact AllReady.nil
            exact AllReady.nil
          exact AllReady.nil
        refine ready_new (fun g => .pointer (some ⟨g, 0, none⟩)) (.cells #[Value.int IntKind.u64 0, Value.int IntKind.u64 0, Value.int IntKind.u64 0, Value.int IntKind.u64 0] 27) rfl rfl (by kernel_rfl) ?_ ?_
        · intro ge w293 RE n0 hb193
          replace RE : Row w293 ge 27 4 (fun _ => 0) := RE
          have n1 := RC.lt
          have n2 := RD.lt
          have n3 := O.size
          replace RC := RC.keep hb193
          replace RD := RD.keep hb193
          replace HZ := HZ.keep hb193
          replace O := O.trans (hb193.mono O.size)
          clear hb193
          refine wpAny_ready (rs := [0]) (by kernel_rfl) (by simp) ?_
          refine ready_load rfl rfl 27 _ rfl ga (by kernel_rfl) 27 (arr 4 x) (0, 0) _ RC Try.underlying27 rfl (info27 _) ?_ ?_
          · skip
            refine wpAny_ready (rs := [1]) (by kernel_rfl) (by simp) ?_
            refine ready_call 22 #[.agg (arr 4 x)] rfl rfl (by kernel_rfl) ?_ ?_
            · refine (F.out.by1 _).mono ?_
              rintro _ w295 ⟨rfl, hb195⟩
              refine ⟨_, rfl, ?_⟩
              replace RC := RC.keep hb195
              replace RD := RD.keep hb195
              replace HZ := HZ.keep hb195
              replace RE := RE.keep hb195
              replace O := O.trans (hb195.mono O.size)
              clear hb195
              refine wpAny_ready (rs := [4]) (by kernel_rfl) (by simp) ?_
              refine ready_to (.string (b ++ zS)) _ rfl rfl (run_cat b zS _ _ _ rfl (by kernel_rfl) (by kernel_rfl) F.out.bsz zS_size) ?_ ?_
              · skip
                refine wpAny_ready (rs := [5]) (by kernel_rfl) (by simp) ?_
                refine ready_call 7 #[.string (b ++ zS)] rfl rfl (by kernel_rfl) ?_ ?_
                · refine (F.out.d2 _).mono ?_
                  rintro _ w297 ⟨rfl, hb197⟩
                  refine ⟨_, rfl, ?_⟩
                  replace RC := RC.keep hb197
                  replace RD := RD.keep hb197
                  replace HZ := HZ.keep hb197
                  replace RE := RE.keep hb197
                  replace O := O.trans (hb197.mono O.size)
                  clear hb197
                  refine wpAny_take (i := 6) (v := .tuple #[.agg (arr 4 x), .int .i64 0]) rfl (by kernel_rfl) (by kernel_rfl) (by kernel_rfl) (fun _ _ _ h => h) (Or.inl ⟨by rfl, fun _ => by kernel_rfl⟩) ?_
                  refine wpAny_take (i := 7) (v := .agg (arr 4 x)) rfl (by kernel_rfl) (by kernel_rfl) (by kernel_rfl) (fun _ _ _ h => h) (Or.inl ⟨by rfl, fun _ => by kernel_rfl⟩) ?_
                  refine wpAny_take (i := 8) (v := .int .i64 0) rfl (by kernel_rfl) (by kernel_rfl) (by kernel_rfl) (fun _ _ _ h => h) (Or.inl ⟨by rfl, fun _ => by kernel_rfl⟩) ?_
                  refine wpAny_ready (rs := [10]) (by kernel_rfl) (by simp) ?_
                  refine ready_put (f' := x) RE rfl rfl 27 _ _ rfl (by kernel_rfl) (by kernel_rfl) (info27 _) ?_ ?_
                  · intro w298 RG ho hu
                    replace RC := RC.at_ (ho ga (by omega))
                    replace RD := RD.at_ (ho gd (by omega))
                    replace O := hu _ _ (by omega) O
                    clear ho hu
                    refine wpAny_ready (rs := [11]) (by kernel_rfl) (by simp) ?_
                    refine ready_to (.int .i64 0) w298 rfl rfl (by kernel_rfl) ?_ ?_
                    · skip
                      exact wpAny_done (by kernel_rfl) (hrest _ _ ⟨gm, ge, by kernel_rfl, RC, RD, RG, O⟩) _
                    exact AllReady.nil
                  exact AllReady.nil
                exact AllReady.nil
              exact AllReady.nil
            exact AllReady.nil
          exact AllReady.nil
        exact AllReady.nil
      refine ready_new (fun g => .pointer (some ⟨g, 0, none⟩)) (.cells #[Value.int IntKind.u64 0, Value.int IntKind.u64 0, Value.int IntKind.u64 0, Value.int IntKind.u64 0] 27) rfl rfl (by kernel_rfl) ?_ ?_
      · intro ge w300 RE n0 hb200
        replace RE : Row w300 ge 27 4 (fun _ => 0) := RE
        have n1 := RC.lt
        have n2 := RD.lt
        have n3 := O.size
        replace RC := RC.keep hb200
        replace RD := RD.keep hb200
        replace HZ := HZ.keep hb200
        replace O := O.trans (hb200.mono O.size)
        clear hb200
        refine wpAny_ready (rs := [0, 3]) (by kernel_rfl) (by simp) ?_
        refine ready_load rfl rfl 27 _ rfl ga (by kernel_rfl) 27 (arr 4 x) (0, 0) _ RC Try.underlying27 rfl (info27 _) ?_ ?_
        · skip
          refine wpAny_ready (rs := [1, 3]) (by kernel_rfl) (by simp) ?_
          refine ready_call 22 #[.agg (arr 4 x)] rfl rfl (by kernel_rfl) ?_ ?_
          · refine (F.out.by1 _).mono ?_
            rintro _ w302 ⟨rfl, hb202⟩
            refine ⟨_, rfl, ?_⟩
            replace RC := RC.keep hb202
            replace RD := RD.keep hb202
            replace HZ := HZ.keep hb202
            replace RE := RE.keep hb202
            replace O := O.trans (hb202.mono O.size)
            clear hb202
            refine wpAny_ready (rs := [3]) (by kernel_rfl) (by simp) ?_
            refine ready_to (.string zS) _ rfl rfl (run_conv _ rfl (by kernel_rfl) HZ) ?_ ?_
            · skip
              refine wpAny_ready (rs := [4]) (by kernel_rfl) (by simp) ?_
              refine ready_to (.string (b ++ zS)) _ rfl rfl (run_cat b zS _ _ _ rfl (by kernel_rfl) (by kernel_rfl) F.out.bsz zS_size) ?_ ?_
              · skip
                refine wpAny_ready (rs := [5]) (by kernel_rfl) (by simp) ?_
                refine ready_call 7 #[.string (b ++ zS)] rfl rfl (by kernel_rfl) ?_ ?_
                · refine (F.out.d2 _).mono ?_
                  rintro _ w305 ⟨rfl, hb205⟩
                  refine ⟨_, rfl, ?_⟩
                  replace RC := RC.keep hb205
                  replace RD := RD.keep hb205
                  replace HZ := HZ.keep hb205
                  replace RE := RE.keep hb205
                  replace O := O.trans (hb205.mono O.size)
                  clear hb205
                  refine wpAny_take (i := 6) (v := .tuple #[.agg (arr 4 x), .int .i64 0]) rfl (by kernel_rfl) (by kernel_rfl) (by kernel_rfl) (fun _ _ _ h => h) (Or.inl ⟨by rfl, fun _ => by kernel_rfl⟩) ?_
                  refine wpAny_take (i := 7) (v := .agg (arr 4 x)) rfl (by kernel_rfl) (by kernel_rfl) (by kernel_rfl) (fun _ _ _ h => h) (Or.inl ⟨by rfl, fun _ => by kernel_rfl⟩) ?_
                  refine wpAny_take (i := 8) (v := .int .i64 0) rfl (by kernel_rfl) (by kernel_rfl) (by kernel_rfl) (fun _ _ _ h => h) (Or.inl ⟨by rfl, fun _ => by kernel_rfl⟩) ?_
                  refine wpAny_ready (rs := [10]) (by kernel_rfl) (by simp) ?_
                  refine ready_put (f' := x) RE rfl rfl 27 _ _ rfl (by kernel_rfl) (by kernel_rfl) (info27 _) ?_ ?_
                  · intro w306 RG ho hu
                    replace RC := RC.at_ (ho ga (by omega))
                    replace RD := RD.at_ (ho gd (by omega))
                    replace O := hu _ _ (by omega) O
                    clear ho hu
                    refine wpAny_ready (rs := [11]) (by kernel_rfl) (by simp) ?_
                    refine ready_to (.int .i64 0) w306 rfl rfl (by kernel_rfl) ?_ ?_
                    · skip
                      exact wpAny_done (by kernel_rfl) (hrest _ _ ⟨gm, ge, by kernel_rfl, RC, RD, RG, O⟩) _
                    exact AllReady.nil
                  exact AllReady.nil
                exact AllReady.nil
              exact AllReady.nil
            exact AllReady.nil
          refine ready_to (.string zS) _ rfl rfl (run_conv _ rfl (by kernel_rfl) HZ) ?_ ?_
          · skip
            refine wpAny_ready (rs := [1]) (by kernel_rfl) (by simp) ?_
            refine ready_call 22 #[.agg (arr 4 x)] rfl rfl (by kernel_rfl) ?_ ?_
            · refine (F.out.by1 _).mono ?_
              rintro _ w309 ⟨rfl, hb209⟩
              refine ⟨_, rfl, ?_⟩
              replace RC := RC.keep hb209
              replace RD := RD.keep hb209
              replace HZ := HZ.keep hb209
              replace RE := RE.keep hb209
              replace O := O.trans (hb209.mono O.size)
              clear hb209
              refine wpAny_ready (rs := [4]) (by kernel_rfl) (by simp) ?_
              refine ready_to (.string (b ++ zS)) _ rfl rfl (run_cat b zS _ _ _ rfl (by kernel_rfl) (by kernel_rfl) F.out.bsz zS_size) ?_ ?_
              · skip
                refine wpAny_ready (rs := [5]) (by kernel_rfl) (by simp) ?_
                refine ready_call 7 #[.string (b ++ zS)] rfl rfl (by kernel_rfl) ?_ ?_
                · refine (F.out.d2 _).mono ?_
                  rintro _ w311 ⟨rfl, hb211⟩
                  refine ⟨_, rfl, ?_⟩
                  replace RC := RC.keep hb211
                  replace RD := RD.keep hb211
                  replace HZ := HZ.keep hb211
                  replace RE := RE.keep hb211
                  replace O := O.trans (hb211.mono O.size)
                  clear hb211
                  refine wpAny_take (i := 6) (v := .tuple #[.agg (arr 4 x), .int .i64 0]) rfl (by kernel_rfl) (by kernel_rfl) (by kernel_rfl) (fun _ _ _ h => h) (Or.inl ⟨by rfl, fun _ => by kernel_rfl⟩) ?_
                  refine wpAny_take (i := 7) (v := .agg (arr 4 x)) rfl (by kernel_rfl) (by kernel_rfl) (by kernel_rfl) (fun _ _ _ h => h) (Or.inl ⟨by rfl, fun _ => by kernel_rfl⟩) ?_
                  refine wpAny_take (i := 8) (v := .int .i64 0) rfl (by kernel_rfl) (by kernel_rfl) (by kernel_rfl) (fun _ _ _ h => h) (Or.inl ⟨by rfl, fun _ => by kernel_rfl⟩) ?_
                  refine wpAny_ready (rs := [10]) (by kernel_rfl) (by simp) ?_
                  refine ready_put (f' := x) RE rfl rfl 27 _ _ rfl (by kernel_rfl) (by kernel_rfl) (info27 _) ?_ ?_
                  · intro w312 RG ho hu
                    replace RC := RC.at_ (ho ga (by omega))
                    replace RD := RD.at_ (ho gd (by omega))
                    replace O := hu _ _ (by omega) O
                    clear ho hu
                    refine wpAny_ready (rs := [11]) (by kernel_rfl) (by simp) ?_
                    refine ready_to (.int .i64 0) w312 rfl rfl (by kernel_rfl) ?_ ?_
                    · skip
                      exact wpAny_done (by kernel_rfl) (hrest _ _ ⟨gm, ge, by kernel_rfl, RC, RD, RG, O⟩) _
                    exact AllReady.nil
                  exact AllReady.nil
                exact AllReady.nil
              exact AllReady.nil
            exact AllReady.nil
          exact AllReady.nil
        refine ready_to (.string zS) _ rfl rfl (run_conv _ rfl (by kernel_rfl) HZ) ?_ ?_
        · skip
          refine wpAny_ready (rs := [0]) (by kernel_rfl) (by simp) ?_
          refine ready_load rfl rfl 27 _ rfl ga (by kernel_rfl) 27 (arr 4 x) (0, 0) _ RC Try.underlying27 rfl (info27 _) ?_ ?_
          · skip
            refine wpAny_ready (rs := [1]) (by kernel_rfl) (by simp) ?_
            refine ready_call 22 #[.agg (arr 4 x)] rfl rfl (by kernel_rfl) ?_ ?_
            · refine (F.out.by1 _).mono ?_
              rintro _ w316 ⟨rfl, hb216⟩
              refine ⟨_, rfl, ?_⟩
              replace RC := RC.keep hb216
              replace RD := RD.keep hb216
              replace HZ := HZ.keep hb216
              replace RE := RE.keep hb216
              replace O := O.trans (hb216.mono O.size)
              clear hb216
              refine wpAny_ready (rs := [4]) (by kernel_rfl) (by simp) ?_
              refine ready_to (.string (b ++ zS)) _ rfl rfl (run_cat b zS _ _ _ rfl (by kernel_rfl) (by kernel_rfl) F.out.bsz zS_size) ?_ ?_
              · skip
                refine wpAny_ready (rs := [5]) (by kernel_rfl) (by simp) ?_
                refine ready_call 7 #[.string (b ++ zS)] rfl rfl (by kernel_rfl) ?_ ?_
                · refine (F.out.d2 _).mono ?_
                  rintro _ w318 ⟨rfl, hb218⟩
                  refine ⟨_, rfl, ?_⟩
                  replace RC := RC.keep hb218
                  replace RD := RD.keep hb218
                  replace HZ := HZ.keep hb218
                  replace RE := RE.keep hb218
                  replace O := O.trans (hb218.mono O.size)
                  clear hb218
                  refine wpAny_take (i := 6) (v := .tuple #[.agg (arr 4 x), .int .i64 0]) rfl (by kernel_rfl) (by kernel_rfl) (by kernel_rfl) (fun _ _ _ h => h) (Or.inl ⟨by rfl, fun _ => by kernel_rfl⟩) ?_
                  refine wpAny_take (i := 7) (v := .agg (arr 4 x)) rfl (by kernel_rfl) (by kernel_rfl) (by kernel_rfl) (fun _ _ _ h => h) (Or.inl ⟨by rfl, fun _ => by kernel_rfl⟩) ?_
                  refine wpAny_take (i := 8) (v := .int .i64 0) rfl (by kernel_rfl) (by kernel_rfl) (by kernel_rfl) (fun _ _ _ h => h) (Or.inl ⟨by rfl, fun _ => by kernel_rfl⟩) ?_
                  refine wpAny_ready (rs := [10]) (by kernel_rfl) (by simp) ?_
                  refine ready_put (f' := x) RE rfl rfl 27 _ _ rfl (by kernel_rfl) (by kernel_rfl) (info27 _) ?_ ?_
                  · intro w319 RG ho hu
                    replace RC := RC.at_ (ho ga (by omega))
                    replace RD := RD.at_ (ho gd (by omega))
                    replace O := hu _ _ (by omega) O
                    clear ho hu
                    refine wpAny_ready (rs := [11]) (by kernel_rfl) (by simp) ?_
                    refine ready_to (.int .i64 0) w319 rfl rfl (by kernel_rfl) ?_ ?_
                    · skip
                      exact wpAny_done (by kernel_rfl) (hrest _ _ ⟨gm, ge, by kernel_rfl, RC, RD, RG, O⟩) _
                    exact AllReady.nil
                  exact AllReady.nil
                exact AllReady.nil
              exact AllReady.nil
            exact AllReady.nil
          exact AllReady.nil
        exact AllReady.nil
      exact AllReady.nil
    refine ready_new (fun g => .pointer (some ⟨g, 0, none⟩)) (.cells #[Value.int IntKind.u64 0, Value.int IntKind.u64 0, Value.int IntKind.u64 0, Value.int IntKind.u64 0] 27) rfl rfl (by kernel_rfl) ?_ ?_
    · intro ge w321 RE n0 hb221
      replace RE : Row w321 ge 27 4 (fun _ => 0) := RE
      have n1 := RC.lt
      have n2 := RD.lt
      have n3 := O.size
      replace RC := RC.keep hb221
      replace RD := RD.keep hb221
      replace O := O.trans (hb221.mono O.size)
      clear hb221
      refine wpAny_ready (rs := [0, 2]) (by kernel_rfl) (by simp) ?_
      refine ready_load rfl rfl 27 _ rfl ga (by kernel_rfl) 27 (arr 4 x) (0, 0) _ RC Try.underlying27 rfl (info27 _) ?_ ?_
      · skip
        refine wpAny_ready (rs := [1, 2]) (by kernel_rfl) (by simp) ?_
        refine ready_call 22 #[.agg (arr 4 x)] rfl rfl (by kernel_rfl) ?_ ?_
        · refine (F.out.by1 _).mono ?_
          rintro _ w323 ⟨rfl, hb223⟩
          refine ⟨_, rfl, ?_⟩
          replace RC := RC.keep hb223
          replace RD := RD.keep hb223
          replace RE := RE.keep hb223
          replace O := O.trans (hb223.mono O.size)
          clear hb223
          refine wpAny_ready (rs := [2]) (by kernel_rfl) (by simp) ?_
          refine ready_new (fun g => .slice (some ⟨g, 0, none⟩) 32 32) (.cells #[Value.int IntKind.u8 0, Value.int IntKind.u8 0, Value.int IntKind.u8 0, Value.int IntKind.u8 0, Value.int IntKind.u8 0, Value.int IntKind.u8 0, Value.int IntKind.u8 0, Value.int IntKind.u8 0, Value.int IntKind.u8 0, Value.int IntKind.u8 0, Value.int IntKind.u8 0, Value.int IntKind.u8 0, Value.int IntKind.u8 0, Value.int IntKind.u8 0, Value.int IntKind.u8 0, Value.int IntKind.u8 0, Value.int IntKind.u8 0, Value.int IntKind.u8 0, Value.int IntKind.u8 0, Value.int IntKind.u8 0, Value.int IntKind.u8 0, Value.int IntKind.u8 0, Value.int IntKind.u8 0, Value.int IntKind.u8 0, Value.int IntKind.u8 0, Value.int IntKind.u8 0, Value.int IntKind.u8 0, Value.int IntKind.u8 0, Value.int IntKind.u8 0, Value.int IntKind.u8 0, Value.int IntKind.u8 0, Value.int IntKind.u8 0] 5) rfl rfl (by kernel_rfl) ?_ ?_
          · intro gm w324 HZ _ hb224
            replace HZ : Z32 w324 gm := HZ
            replace RC := RC.keep hb224
            replace RD := RD.keep hb224
            replace RE := RE.keep hb224
            replace O := O.trans (hb224.mono O.size)
            clear hb224
            refine wpAny_ready (rs := [3]) (by kernel_rfl) (by simp) ?_
            refine ready_to (.string zS) _ rfl rfl (run_conv _ rfl (by kernel_rfl) HZ) ?_ ?_
            · skip
              refine wpAny_ready (rs := [4]) (by kernel_rfl) (by simp) ?_
              refine ready_to (.string (b ++ zS)) _ rfl rfl (run_cat b zS _ _ _ rfl (by kernel_rfl) (by kernel_rfl) F.out.bsz zS_size) ?_ ?_
              · skip
                refine wpAny_ready (rs := [5]) (by kernel_rfl) (by simp) ?_
                refine ready_call 7 #[.string (b ++ zS)] rfl rfl (by kernel_rfl) ?_ ?_
                · refine (F.out.d2 _).mono ?_
                  rintro _ w327 ⟨rfl, hb227⟩
                  refine ⟨_, rfl, ?_⟩
                  replace RC := RC.keep hb227
                  replace RD := RD.keep hb227
                  replace HZ := HZ.keep hb227
                  replace RE := RE.keep hb227
                  replace O := O.trans (hb227.mono O.size)
                  clear hb227
                  refine wpAny_take (i := 6) (v := .tuple #[.agg (arr 4 x), .int .i64 0]) rfl (by kernel_rfl) (by kernel_rfl) (by kernel_rfl) (fun _ _ _ h => h) (Or.inl ⟨by rfl, fun _ => by kernel_rfl⟩) ?_
                  refine wpAny_take (i := 7) (v := .agg (arr 4 x)) rfl (by kernel_rfl) (by kernel_rfl) (by kernel_rfl) (fun _ _ _ h => h) (Or.inl ⟨by rfl, fun _ => by kernel_rfl⟩) ?_
                  refine wpAny_take (i := 8) (v := .int .i64 0) rfl (by kernel_rfl) (by kernel_rfl) (by kernel_rfl) (fun _ _ _ h => h) (Or.inl ⟨by rfl, fun _ => by kernel_rfl⟩) ?_
                  refine wpAny_ready (rs := [10]) (by kernel_rfl) (by simp) ?_
                  refine ready_put (f' := x) RE rfl rfl 27 _ _ rfl (by kernel_rfl) (by kernel_rfl) (info27 _) ?_ ?_
                  · intro w328 RG ho hu
                    replace RC := RC.at_ (ho ga (by omega))
                    replace RD := RD.at_ (ho gd (by omega))
                    replace O := hu _ _ (by omega) O
                    clear ho hu
                    refine wpAny_ready (rs := [11]) (by kernel_rfl) (by simp) ?_
                    refine ready_to (.int .i64 0) w328 rfl rfl (by kernel_rfl) ?_ ?_
                    · skip
                      exact wpAny_done (by kernel_rfl) (hrest _ _ ⟨gm, ge, by kernel_rfl, RC, RD, RG, O⟩) _
                    exact AllReady.nil
                  exact AllReady.nil
                exact AllReady.nil
              exact AllReady.nil
            exact AllReady.nil
          exact AllReady.nil
        refine ready_new (fun g => .slice (some ⟨g, 0, none⟩) 32 32) (.cells #[Value.int IntKind.u8 0, Value.int IntKind.u8 0, Value.int IntKind.u8 0, Value.int IntKind.u8 0, Value.int IntKind.u8 0, Value.int IntKind.u8 0, Value.int IntKind.u8 0, Value.int IntKind.u8 0, Value.int IntKind.u8 0, Value.int IntKind.u8 0, Value.int IntKind.u8 0, Value.int IntKind.u8 0, Value.int IntKind.u8 0, Value.int IntKind.u8 0, Value.int IntKind.u8 0, Value.int IntKind.u8 0, Value.int IntKind.u8 0, Value.int IntKind.u8 0, Value.int IntKind.u8 0, Value.int IntKind.u8 0, Value.int IntKind.u8 0, Value.int IntKind.u8 0, Value.int IntKind.u8 0, Value.int IntKind.u8 0, Value.int IntKind.u8 0, Value.int IntKind.u8 0, Value.int IntKind.u8 0, Value.int IntKind.u8 0, Value.int IntKind.u8 0, Value.int IntKind.u8 0, Value.int IntKind.u8 0, Value.int IntKind.u8 0] 5) rfl rfl (by kernel_rfl) ?_ ?_
        · intro gm w330 HZ _ hb230
          replace HZ : Z32 w330 gm := HZ
          replace RC := RC.keep hb230
          replace RD := RD.keep hb230
          replace RE := RE.keep hb230
          replace O := O.trans (hb230.mono O.size)
          clear hb230
          refine wpAny_ready (rs := [1, 3]) (by kernel_rfl) (by simp) ?_
          refine ready_call 22 #[.agg (arr 4 x)] rfl rfl (by kernel_rfl) ?_ ?_
          · refine (F.out.by1 _).mono ?_
            rintro _ w331 ⟨rfl, hb231⟩
            refine ⟨_, rfl, ?_⟩
            replace RC := RC.keep hb231
            replace RD := RD.keep hb231
            replace HZ := HZ.keep hb231
            replace RE := RE.keep hb231
            replace O := O.trans (hb231.mono O.size)
            clear hb231
            refine wpAny_ready (rs := [3]) (by kernel_rfl) (by simp) ?_
            refine ready_to (.string zS) _ rfl rfl (run_conv _ rfl (by kernel_rfl) HZ) ?_ ?_
            · skip
              refine wpAny_ready (rs := [4]) (by kernel_rfl) (by simp) ?_
              refine ready_to (.string (b ++ zS)) _ rfl rfl (run_cat b zS _ _ _ rfl (by kernel_rfl) (by kernel_rfl) F.out.bsz zS_size) ?_ ?_
              · skip
                refine wpAny_ready (rs := [5]) (by kernel_rfl) (by simp) ?_
                refine ready_call 7 #[.string (b ++ zS)] rfl rfl (by kernel_rfl) ?_ ?_
                · refine (F.out.d2 _).mono ?_
                  rintro _ w334 ⟨rfl, hb234⟩
                  refine ⟨_, rfl, ?_⟩
                  replace RC := RC.keep hb234
                  replace RD := RD.keep hb234
                  replace HZ := HZ.keep hb234
                  replace RE := RE.keep hb234
                  replace O := O.trans (hb234.mono O.size)
                  clear hb234
                  refine wpAny_take (i := 6) (v := .tuple #[.agg (arr 4 x), .int .i64 0]) rfl (by kernel_rfl) (by kernel_rfl) (by kernel_rfl) (fun _ _ _ h => h) (Or.inl ⟨by rfl, fun _ => by kernel_rfl⟩) ?_
                  refine wpAny_take (i := 7) (v := .agg (arr 4 x)) rfl (by kernel_rfl) (by kernel_rfl) (by kernel_rfl) (fun _ _ _ h => h) (Or.inl ⟨by rfl, fun _ => by kernel_rfl⟩) ?_
                  refine wpAny_take (i := 8) (v := .int .i64 0) rfl (by kernel_rfl) (by kernel_rfl) (by kernel_rfl) (fun _ _ _ h => h) (Or.inl ⟨by rfl, fun _ => by kernel_rfl⟩) ?_
                  refine wpAny_ready (rs := [10]) (by kernel_rfl) (by simp) ?_
                  refine ready_put (f' := x) RE rfl rfl 27 _ _ rfl (by kernel_rfl) (by kernel_rfl) (info27 _) ?_ ?_
                  · intro w335 RG ho hu
                    replace RC := RC.at_ (ho ga (by omega))
                    replace RD := RD.at_ (ho gd (by omega))
                    replace O := hu _ _ (by omega) O
                    clear ho hu
                    refine wpAny_ready (rs := [11]) (by kernel_rfl) (by simp) ?_
                    refine ready_to (.int .i64 0) w335 rfl rfl (by kernel_rfl) ?_ ?_
                    · skip
                      exact wpAny_done (by kernel_rfl) (hrest _ _ ⟨gm, ge, by kernel_rfl, RC, RD, RG, O⟩) _
                    exact AllReady.nil
                  exact AllReady.nil
                exact AllReady.nil
              exact AllReady.nil
            exact AllReady.nil
          refine ready_to (.string zS) _ rfl rfl (run_conv _ rfl (by kernel_rfl) HZ) ?_ ?_
          · skip
            refine wpAny_ready (rs := [1]) (by kernel_rfl) (by simp) ?_
            refine ready_call 22 #[.agg (arr 4 x)] rfl rfl (by kernel_rfl) ?_ ?_
            · refine (F.out.by1 _).mono ?_
              rintro _ w338 ⟨rfl, hb238⟩
              refine ⟨_, rfl, ?_⟩
              replace RC := RC.keep hb238
              replace RD := RD.keep hb238
              replace HZ := HZ.keep hb238
              replace RE := RE.keep hb238
              replace O := O.trans (hb238.mono O.size)
              clear hb238
              refine wpAny_ready (rs := [4]) (by kernel_rfl) (by simp) ?_
              refine ready_to (.string (b ++ zS)) _ rfl rfl (run_cat b zS _ _ _ rfl (by kernel_rfl) (by kernel_rfl) F.out.bsz zS_size) ?_ ?_
              · skip
                refine wpAny_ready (rs := [5]) (by kernel_rfl) (by simp) ?_
                refine ready_call 7 #[.string (b ++ zS)] rfl rfl (by kernel_rfl) ?_ ?_
                · refine (F.out.d2 _).mono ?_
                  rintro _ w340 ⟨rfl, hb240⟩
                  refine ⟨_, rfl, ?_⟩
                  replace RC := RC.keep hb240
                  replace RD := RD.keep hb240
                  replace HZ := HZ.keep hb240
                  replace RE := RE.keep hb240
                  replace O := O.trans (hb240.mono O.size)
                  clear hb240
                  refine wpAny_take (i := 6) (v := .tuple #[.agg (arr 4 x), .int .i64 0]) rfl (by kernel_rfl) (by kernel_rfl) (by kernel_rfl) (fun _ _ _ h => h) (Or.inl ⟨by rfl, fun _ => by kernel_rfl⟩) ?_
                  refine wpAny_take (i := 7) (v := .agg (arr 4 x)) rfl (by kernel_rfl) (by kernel_rfl) (by kernel_rfl) (fun _ _ _ h => h) (Or.inl ⟨by rfl, fun _ => by kernel_rfl⟩) ?_
                  refine wpAny_take (i := 8) (v := .int .i64 0) rfl (by kernel_rfl) (by kernel_rfl) (by kernel_rfl) (fun _ _ _ h => h) (Or.inl ⟨by rfl, fun _ => by kernel_rfl⟩) ?_
                  refine wpAny_ready (rs := [10]) (by kernel_rfl) (by simp) ?_
                  refine ready_put (f' := x) RE rfl rfl 27 _ _ rfl (by kernel_rfl) (by kernel_rfl) (info27 _) ?_ ?_
                  · intro w341 RG ho hu
                    replace RC := RC.at_ (ho ga (by omega))
                    replace RD := RD.at_ (ho gd (by omega))
                    replace O := hu _ _ (by omega) O
                    clear ho hu
                    refine wpAny_ready (rs := [11]) (by kernel_rfl) (by simp) ?_
                    refine ready_to (.int .i64 0) w341 rfl rfl (by kernel_rfl) ?_ ?_
                    · skip
                      exact wpAny_done (by kernel_rfl) (hrest _ _ ⟨gm, ge, by kernel_rfl, RC, RD, RG, O⟩) _
                    exact AllReady.nil
                  exact AllReady.nil
                exact AllReady.nil
              exact AllReady.nil
            exact AllReady.nil
          exact AllReady.nil
        exact AllReady.nil
      refine ready_new (fun g => .slice (some ⟨g, 0, none⟩) 32 32) (.cells #[Value.int IntKind.u8 0, Value.int IntKind.u8 0, Value.int IntKind.u8 0, Value.int IntKind.u8 0, Value.int IntKind.u8 0, Value.int IntKind.u8 0, Value.int IntKind.u8 0, Value.int IntKind.u8 0, Value.int IntKind.u8 0, Value.int IntKind.u8 0, Value.int IntKind.u8 0, Value.int IntKind.u8 0, Value.int IntKind.u8 0, Value.int IntKind.u8 0, Value.int IntKind.u8 0, Value.int IntKind.u8 0, Value.int IntKind.u8 0, Value.int IntKind.u8 0, Value.int IntKind.u8 0, Value.int IntKind.u8 0, Value.int IntKind.u8 0, Value.int IntKind.u8 0, Value.int IntKind.u8 0, Value.int IntKind.u8 0, Value.int IntKind.u8 0, Value.int IntKind.u8 0, Value.int IntKind.u8 0, Value.int IntKind.u8 0, Value.int IntKind.u8 0, Value.int IntKind.u8 0, Value.int IntKind.u8 0, Value.int IntKind.u8 0] 5) rfl rfl (by kernel_rfl) ?_ ?_
      · intro gm w343 HZ _ hb243
        replace HZ : Z32 w343 gm := HZ
        replace RC := RC.keep hb243
        replace RD := RD.keep hb243
        replace RE := RE.keep hb243
        replace O := O.trans (hb243.mono O.size)
        clear hb243
        refine wpAny_ready (rs := [0, 3]) (by kernel_rfl) (by simp) ?_
        refine ready_load rfl rfl 27 _ rfl ga (by kernel_rfl) 27 (arr 4 x) (0, 0) _ RC Try.underlying27 rfl (info27 _) ?_ ?_
        · skip
          refine wpAny_ready (rs := [1, 3]) (by kernel_rfl) (by simp) ?_
          refine ready_call 22 #[.agg (arr 4 x)] rfl rfl (by kernel_rfl) ?_ ?_
          · refine (F.out.by1 _).mono ?_
            rintro _ w345 ⟨rfl, hb245⟩
            refine ⟨_, rfl, ?_⟩
            replace RC := RC.keep hb245
            replace RD := RD.keep hb245
            replace HZ := HZ.keep hb245
            replace RE := RE.keep hb245
            replace O := O.trans (hb245.mono O.size)
            clear hb245
            refine wpAny_ready (rs := [3]) (by kernel_rfl) (by simp) ?_
            refine ready_to (.string zS) _ rfl rfl (run_conv _ rfl (by kernel_rfl) HZ) ?_ ?_
            · skip
              refine wpAny_ready (rs := [4]) (by kernel_rfl) (by simp) ?_
              refine ready_to (.string (b ++ zS)) _ rfl rfl (run_cat b zS _ _ _ rfl (by kernel_rfl) (by kernel_rfl) F.out.bsz zS_size) ?_ ?_
              · skip
                refine wpAny_ready (rs := [5]) (by kernel_rfl) (by simp) ?_
                refine ready_call 7 #[.string (b ++ zS)] rfl rfl (by kernel_rfl) ?_ ?_
                · refine (F.out.d2 _).mono ?_
                  rintro _ w348 ⟨rfl, hb248⟩
                  refine ⟨_, rfl, ?_⟩
                  replace RC := RC.keep hb248
                  replace RD := RD.keep hb248
                  replace HZ := HZ.keep hb248
                  replace RE := RE.keep hb248
                  replace O := O.trans (hb248.mono O.size)
                  clear hb248
                  refine wpAny_take (i := 6) (v := .tuple #[.agg (arr 4 x), .int .i64 0]) rfl (by kernel_rfl) (by kernel_rfl) (by kernel_rfl) (fun _ _ _ h => h) (Or.inl ⟨by rfl, fun _ => by kernel_rfl⟩) ?_
                  refine wpAny_take (i := 7) (v := .agg (arr 4 x)) rfl (by kernel_rfl) (by kernel_rfl) (by kernel_rfl) (fun _ _ _ h => h) (Or.inl ⟨by rfl, fun _ => by kernel_rfl⟩) ?_
                  refine wpAny_take (i := 8) (v := .int .i64 0) rfl (by kernel_rfl) (by kernel_rfl) (by kernel_rfl) (fun _ _ _ h => h) (Or.inl ⟨by rfl, fun _ => by kernel_rfl⟩) ?_
                  refine wpAny_ready (rs := [10]) (by kernel_rfl) (by simp) ?_
                  refine ready_put (f' := x) RE rfl rfl 27 _ _ rfl (by kernel_rfl) (by kernel_rfl) (info27 _) ?_ ?_
                  · intro w349 RG ho hu
                    replace RC := RC.at_ (ho ga (by omega))
                    replace RD := RD.at_ (ho gd (by omega))
                    replace O := hu _ _ (by omega) O
                    clear ho hu
                    refine wpAny_ready (rs := [11]) (by kernel_rfl) (by simp) ?_
                    refine ready_to (.int .i64 0) w349 rfl rfl (by kernel_rfl) ?_ ?_
                    · skip
                      exact wpAny_done (by kernel_rfl) (hrest _ _ ⟨gm, ge, by kernel_rfl, RC, RD, RG, O⟩) _
                    exact AllReady.nil
                  exact AllReady.nil
                exact AllReady.nil
              exact AllReady.nil
            exact AllReady.nil
          refine ready_to (.string zS) _ rfl rfl (run_conv _ rfl (by kernel_rfl) HZ) ?_ ?_
          · skip
            refine wpAny_ready (rs := [1]) (by kernel_rfl) (by simp) ?_
            refine ready_call 22 #[.agg (arr 4 x)] rfl rfl (by kernel_rfl) ?_ ?_
            · refine (F.out.by1 _).mono ?_
              rintro _ w352 ⟨rfl, hb252⟩
              refine ⟨_, rfl, ?_⟩
              replace RC := RC.keep hb252
              replace RD := RD.keep hb252
              replace HZ := HZ.keep hb252
              replace RE := RE.keep hb252
              replace O := O.trans (hb252.mono O.size)
              clear hb252
              refine wpAny_ready (rs := [4]) (by kernel_rfl) (by simp) ?_
              refine ready_to (.string (b ++ zS)) _ rfl rfl (run_cat b zS _ _ _ rfl (by kernel_rfl) (by kernel_rfl) F.out.bsz zS_size) ?_ ?_
              · skip
                refine wpAny_ready (rs := [5]) (by kernel_rfl) (by simp) ?_
                refine ready_call 7 #[.string (b ++ zS)] rfl rfl (by kernel_rfl) ?_ ?_
                · refine (F.out.d2 _).mono ?_
                  rintro _ w354 ⟨rfl, hb254⟩
                  refine ⟨_, rfl, ?_⟩
                  replace RC := RC.keep hb254
                  replace RD := RD.keep hb254
                  replace HZ := HZ.keep hb254
                  replace RE := RE.keep hb254
                  replace O := O.trans (hb254.mono O.size)
                  clear hb254
                  refine wpAny_take (i := 6) (v := .tuple #[.agg (arr 4 x), .int .i64 0]) rfl (by kernel_rfl) (by kernel_rfl) (by kernel_rfl) (fun _ _ _ h => h) (Or.inl ⟨by rfl, fun _ => by kernel_rfl⟩) ?_
                  refine wpAny_take (i := 7) (v := .agg (arr 4 x)) rfl (by kernel_rfl) (by kernel_rfl) (by kernel_rfl) (fun _ _ _ h => h) (Or.inl ⟨by rfl, fun _ => by kernel_rfl⟩) ?_
                  refine wpAny_take (i := 8) (v := .int .i64 0) rfl (by kernel_rfl) (by kernel_rfl) (by kernel_rfl) (fun _ _ _ h => h) (Or.inl ⟨by rfl, fun _ => by kernel_rfl⟩) ?_
                  refine wpAny_ready (rs := [10]) (by kernel_rfl) (by simp) ?_
                  refine ready_put (f' := x) RE rfl rfl 27 _ _ rfl (by kernel_rfl) (by kernel_rfl) (info27 _) ?_ ?_
                  · intro w355 RG ho hu
                    replace RC := RC.at_ (ho ga (by omega))
                    replace RD := RD.at_ (ho gd (by omega))
                    replace O := hu _ _ (by omega) O
                    clear ho hu
                    refine wpAny_ready (rs := [11]) (by kernel_rfl) (by simp) ?_
                    refine ready_to (.int .i64 0) w355 rfl rfl (by kernel_rfl) ?_ ?_
                    · skip
                      exact wpAny_done (by kernel_rfl) (hrest _ _ ⟨gm, ge, by kernel_rfl, RC, RD, RG, O⟩) _
                    exact AllReady.nil
                  exact AllReady.nil
                exact AllReady.nil
              exact AllReady.nil
            exact AllReady.nil
          exact AllReady.nil
        refine ready_to (.string zS) _ rfl rfl (run_conv _ rfl (by kernel_rfl) HZ) ?_ ?_
        · skip
          refine wpAny_ready (rs := [0]) (by kernel_rfl) (by simp) ?_
          refine ready_load rfl rfl 27 _ rfl ga (by kernel_rfl) 27 (arr 4 x) (0, 0) _ RC Try.underlying27 rfl (info27 _) ?_ ?_
          · skip
            refine wpAny_ready (rs := [1]) (by kernel_rfl) (by simp) ?_
            refine ready_call 22 #[.agg (arr 4 x)] rfl rfl (by kernel_rfl) ?_ ?_
            · refine (F.out.by1 _).mono ?_
              rintro _ w359 ⟨rfl, hb259⟩
              refine ⟨_, rfl, ?_⟩
              replace RC := RC.keep hb259
              replace RD := RD.keep hb259
              replace HZ := HZ.keep hb259
              replace RE := RE.keep hb259
              replace O := O.trans (hb259.mono O.size)
              clear hb259
              refine wpAny_ready (rs := [4]) (by kernel_rfl) (by simp) ?_
              refine ready_to (.string (b ++ zS)) _ rfl rfl (run_cat b zS _ _ _ rfl (by kernel_rfl) (by kernel_rfl) F.out.bsz zS_size) ?_ ?_
              · skip
                refine wpAny_ready (rs := [5]) (by kernel_rfl) (by simp) ?_
                refine ready_call 7 #[.string (b ++ zS)] rfl rfl (by kernel_rfl) ?_ ?_
                · refine (F.out.d2 _).mono ?_
                  rintro _ w361 ⟨rfl, hb261⟩
                  refine ⟨_, rfl, ?_⟩
                  replace RC := RC.keep hb261
                  replace RD := RD.keep hb261
                  replace HZ := HZ.keep hb261
                  replace RE := RE.keep hb261
                  replace O := O.trans (hb261.mono O.size)
                  clear hb261
                  refine wpAny_take (i := 6) (v := .tuple #[.agg (arr 4 x), .int .i64 0]) rfl (by kernel_rfl) (by kernel_rfl) (by kernel_rfl) (fun _ _ _ h => h) (Or.inl ⟨by rfl, fun _ => by kernel_rfl⟩) ?_
                  refine wpAny_take (i := 7) (v := .agg (arr 4 x)) rfl (by kernel_rfl) (by kernel_rfl) (by kernel_rfl) (fun _ _ _ h => h) (Or.inl ⟨by rfl, fun _ => by kernel_rfl⟩) ?_
                  refine wpAny_take (i := 8) (v := .int .i64 0) rfl (by kernel_rfl) (by kernel_rfl) (by kernel_rfl) (fun _ _ _ h => h) (Or.inl ⟨by rfl, fun _ => by kernel_rfl⟩) ?_
                  refine wpAny_ready (rs := [10]) (by kernel_rfl) (by simp) ?_
                  refine ready_put (f' := x) RE rfl rfl 27 _ _ rfl (by kernel_rfl) (by kernel_rfl) (info27 _) ?_ ?_
                  · intro w362 RG ho hu
                    replace RC := RC.at_ (ho ga (by omega))
                    replace RD := RD.at_ (ho gd (by omega))
                    replace O := hu _ _ (by omega) O
                    clear ho hu
                    refine wpAny_ready (rs := [11]) (by kernel_rfl) (by simp) ?_
                    refine ready_to (.int .i64 0) w362 rfl rfl (by kernel_rfl) ?_ ?_
                    · skip
                      exact wpAny_done (by kernel_rfl) (hrest _ _ ⟨gm, ge, by kernel_rfl, RC, RD, RG, O⟩) _
                    exact AllReady.nil
                  exact AllReady.nil
                exact AllReady.nil
              exact AllReady.nil
            exact AllReady.nil
          exact AllReady.nil
        exact AllReady.nil
      exact AllReady.nil
    exact AllReady.nil

end Go.Proofs.Ytaaijicpdampiaa
