/- The contract of step: told by what its callees hand back. -/
import Derived.Test.YtiiniodidkfbiaaMore
namespace Go.Proofs.Ytiiniodidkfbiaa
open Go.RowKit

/-- What the callees of step hand back. -/
structure SF (ax az bx bz xx sm df aa bb ee u1 da u2 cb ps ms dx k1 k2 k3 dz px m2 pz : Nat → Int) : Prop where
  h1 : ∀ w, Calls Try.prog 44 #[.agg (arr 5 ax), .agg (arr 5 az)] w fun r w' => r = .returned (.agg (arr 5 sm)) ∧ Below w.heap.size w w'
  h2 : ∀ w, Calls Try.prog 45 #[.agg (arr 5 ax), .agg (arr 5 az)] w fun r w' => r = .returned (.agg (arr 5 df)) ∧ Below w.heap.size w w'
  h3 : ∀ w, Calls Try.prog 27 #[.agg (arr 5 sm), .agg (arr 5 sm)] w fun r w' => r = .returned (.agg (arr 5 aa)) ∧ Below w.heap.size w w'
  h4 : ∀ w, Calls Try.prog 27 #[.agg (arr 5 df), .agg (arr 5 df)] w fun r w' => r = .returned (.agg (arr 5 bb)) ∧ Below w.heap.size w w'
  h5 : ∀ w, Calls Try.prog 45 #[.agg (arr 5 aa), .agg (arr 5 bb)] w fun r w' => r = .returned (.agg (arr 5 ee)) ∧ Below w.heap.size w w'
  h6 : ∀ w, Calls Try.prog 45 #[.agg (arr 5 bx), .agg (arr 5 bz)] w fun r w' => r = .returned (.agg (arr 5 u1)) ∧ Below w.heap.size w w'
  h7 : ∀ w, Calls Try.prog 27 #[.agg (arr 5 u1), .agg (arr 5 sm)] w fun r w' => r = .returned (.agg (arr 5 da)) ∧ Below w.heap.size w w'
  h8 : ∀ w, Calls Try.prog 44 #[.agg (arr 5 bx), .agg (arr 5 bz)] w fun r w' => r = .returned (.agg (arr 5 u2)) ∧ Below w.heap.size w w'
  h9 : ∀ w, Calls Try.prog 27 #[.agg (arr 5 u2), .agg (arr 5 df)] w fun r w' => r = .returned (.agg (arr 5 cb)) ∧ Below w.heap.size w w'
  h10 : ∀ w, Calls Try.prog 44 #[.agg (arr 5 da), .agg (arr 5 cb)] w fun r w' => r = .returned (.agg (arr 5 ps)) ∧ Below w.heap.size w w'
  h11 : ∀ w, Calls Try.prog 45 #[.agg (arr 5 da), .agg (arr 5 cb)] w fun r w' => r = .returned (.agg (arr 5 ms)) ∧ Below w.heap.size w w'
  h12 : ∀ w, Calls Try.prog 27 #[.agg (arr 5 aa), .agg (arr 5 bb)] w fun r w' => r = .returned (.agg (arr 5 dx)) ∧ Below w.heap.size w w'
  h14 : ∀ w, Calls Try.prog 27 #[.agg (arr 5 k1), .agg (arr 5 ee)] w fun r w' => r = .returned (.agg (arr 5 k2)) ∧ Below w.heap.size w w'
  h15 : ∀ w, Calls Try.prog 44 #[.agg (arr 5 aa), .agg (arr 5 k2)] w fun r w' => r = .returned (.agg (arr 5 k3)) ∧ Below w.heap.size w w'
  h16 : ∀ w, Calls Try.prog 27 #[.agg (arr 5 ee), .agg (arr 5 k3)] w fun r w' => r = .returned (.agg (arr 5 dz)) ∧ Below w.heap.size w w'
  h17 : ∀ w, Calls Try.prog 27 #[.agg (arr 5 ps), .agg (arr 5 ps)] w fun r w' => r = .returned (.agg (arr 5 px)) ∧ Below w.heap.size w w'
  h18 : ∀ w, Calls Try.prog 27 #[.agg (arr 5 ms), .agg (arr 5 ms)] w fun r w' => r = .returned (.agg (arr 5 m2)) ∧ Below w.heap.size w w'
  h19 : ∀ w, Calls Try.prog 27 #[.agg (arr 5 xx), .agg (arr 5 m2)] w fun r w' => r = .returned (.agg (arr 5 pz)) ∧ Below w.heap.size w w'
  h13 : ∀ w, Calls Try.prog 20 #[.int .u32 121665] w fun r w' => r = .returned (.agg (arr 5 k1)) ∧ Below w.heap.size w w'

set_option maxRecDepth 100000 in
set_option maxHeartbeats 8000000 in
theorem step_gen (ax az bx bz xx sm df aa bb ee u1 da u2 cb ps ms dx k1 k2 k3 dz px m2 pz : Nat → Int) (w : World) (F0 : SF ax az bx bz xx sm df aa bb ee u1 da u2 cb ps ms dx k1 k2 k3 dz px m2 pz) :
    Calls Try.prog 26 #[.agg (arr 10 (pj ax az)), .agg (arr 10 (pj bx bz)), .agg (arr 5 xx)] w fun r w' => r = .returned (.tuple #[.agg (arr 10 (pj dx dz)), .agg (arr 10 (pj px pz))]) ∧ Below w.heap.size w w' := by
  have F := hide F0
  clear F0
  go_enter Try.func26, Try.ntmps26
  go_wp2_with fail
  rw [show #[Value.int IntKind.u64 0, Value.int IntKind.u64 0, Value.int IntKind.u64 0, Value.int IntKind.u64 0, Value.int IntKind.u64 0, Value.int IntKind.u64 0, Value.int IntKind.u64 0, Value.int IntKind.u64 0, Value.int IntKind.u64 0, Value.int IntKind.u64 0] = arr 10 (fun _ => 0) from rfl]
  have RA : Row (((((w.alloc (.cells (arr 10 (pj ax az)) 54)).alloc (.cells (arr 10 (pj bx bz)) 54)).alloc (.cells (arr 5 xx) 41)).alloc (.cells (arr 10 fun _ => 0) 54)).alloc (.cells (arr 10 fun _ => 0) 54)) w.heap.size 54 10 (pj ax az) := ((((Row.new w 54 10 _).alloc _).alloc _).alloc _).alloc _
  have RB : Row (((((w.alloc (.cells (arr 10 (pj ax az)) 54)).alloc (.cells (arr 10 (pj bx bz)) 54)).alloc (.cells (arr 5 xx) 41)).alloc (.cells (arr 10 fun _ => 0) 54)).alloc (.cells (arr 10 fun _ => 0) 54)) (w.heap.size + 1) 54 10 (pj bx bz) := (((Row.new' _ 54 10 _ (by simp)).alloc _).alloc _).alloc _
  have RX : Row (((((w.alloc (.cells (arr 10 (pj ax az)) 54)).alloc (.cells (arr 10 (pj bx bz)) 54)).alloc (.cells (arr 5 xx) 41)).alloc (.cells (arr 10 fun _ => 0) 54)).alloc (.cells (arr 10 fun _ => 0) 54)) (w.heap.size + 1 + 1) 41 5 xx := ((Row.new' _ 41 5 _ (by simp)).alloc _).alloc _
  have R6 : Row (((((w.alloc (.cells (arr 10 (pj ax az)) 54)).alloc (.cells (arr 10 (pj bx bz)) 54)).alloc (.cells (arr 5 xx) 41)).alloc (.cells (arr 10 fun _ => 0) 54)).alloc (.cells (arr 10 fun _ => 0) 54)) (w.heap.size + 1 + 1 + 1) 54 10 (fun _ => 0) := (Row.new' _ 54 10 _ (by simp)).alloc _
  have R7 : Row (((((w.alloc (.cells (arr 10 (pj ax az)) 54)).alloc (.cells (arr 10 (pj bx bz)) 54)).alloc (.cells (arr 5 xx) 41)).alloc (.cells (arr 10 fun _ => 0) 54)).alloc (.cells (arr 10 fun _ => 0) 54)) (w.heap.size + 1 + 1 + 1 + 1) 54 10 (fun _ => 0) := Row.new' _ 54 10 _ (by simp)
  have O : Below w.heap.size w (((((w.alloc (.cells (arr 10 (pj ax az)) 54)).alloc (.cells (arr 10 (pj bx bz)) 54)).alloc (.cells (arr 5 xx) 41)).alloc (.cells (arr 10 fun _ => 0) 54)).alloc (.cells (arr 10 fun _ => 0) 54)) := (((((Below.refl _ _).alloc (Nat.le_refl _) _).alloc (by simp) _).alloc (by simp; omega) _).alloc (by simp; omega) _).alloc (by simp; omega) _
  generalize (((((w.alloc (.cells (arr 10 (pj ax az)) 54)).alloc (.cells (arr 10 (pj bx bz)) 54)).alloc (.cells (arr 5 xx) 41)).alloc (.cells (arr 10 fun _ => 0) 54)).alloc (.cells (arr 10 fun _ => 0) 54)) = W at RA RB RX R6 R7 O ⊢
  have LAx : Hid (∀ s : KW W, s.w.rangeAt w.heap.size 0 (arr 5 ax).toList) := hide fun s => (RA.keep s.keep).px
  have LAz : Hid (∀ s : KW W, s.w.rangeAt w.heap.size 5 (arr 5 az).toList) := hide fun s => (RA.keep s.keep).pz
  refine wp_region_keep_alloc2 (Z := .cells #[Value.int IntKind.u64 0, Value.int IntKind.u64 0, Value.int IntKind.u64 0, Value.int IntKind.u64 0, Value.int IntKind.u64 0] 41) (Y := .cells #[Value.int IntKind.u64 0, Value.int IntKind.u64 0, Value.int IntKind.u64 0, Value.int IntKind.u64 0, Value.int IntKind.u64 0] 41) 10 (by kernel_rfl) (by kernel_rfl) rfl rfl rfl rfl (fun _ _ => by kernel_rfl) (fun _ _ => by kernel_rfl) ?_
  simp only [List.take_succ_cons, List.take_zero]
  refine wpK_val (.pointer (some ⟨w.heap.size, 0, none⟩)) rfl (fun _ => by kernel_rfl) ?_
  refine wpK_load rfl 41 _ rfl w.heap.size 0 (by kernel_rfl) 5 ax LAx.out _ Try.underlying41 rfl info41 ?_
  refine wpK_val (.pointer (some ⟨w.heap.size, 5, none⟩)) rfl (fun _ => by kernel_rfl) ?_
  refine wpK_load rfl 41 _ rfl w.heap.size 5 (by kernel_rfl) 5 az LAz.out _ Try.underlying41 rfl info41 ?_
  refine wpK_call 44 #[.agg (arr 5 ax), .agg (arr 5 az)] (.agg (arr 5 sm)) rfl (fun _ => by kernel_rfl) F.out.h1 ?_
  refine wpK_val (.pointer (some ⟨w.heap.size, 0, none⟩)) rfl (fun _ => by kernel_rfl) ?_
  refine wpK_load rfl 41 _ rfl w.heap.size 0 (by kernel_rfl) 5 ax LAx.out _ Try.underlying41 rfl info41 ?_
  refine wpK_val (.pointer (some ⟨w.heap.size, 5, none⟩)) rfl (fun _ => by kernel_rfl) ?_
  refine wpK_load rfl 41 _ rfl w.heap.size 5 (by kernel_rfl) 5 az LAz.out _ Try.underlying41 rfl info41 ?_
  refine wpK_call 45 #[.agg (arr 5 ax), .agg (arr 5 az)] (.agg (arr 5 df)) rfl (fun _ => by kernel_rfl) F.out.h2 ?_
  clear RA
  refine wpK_nil ?_
  intro W1 g8 g9 hb n1 n2 n3 r1 r2 a2 ha2
  simp [go_sem] at ha2
  subst ha2
  clear LAx LAz
  have lB := RB.lt
  have lX := RX.lt
  have l6 := R6.lt
  have l7 := R7.lt
  replace RB := RB.keep hb
  replace RX := RX.keep hb
  replace R6 := R6.keep hb
  replace R7 := R7.keep hb
  have lo := O.size
  replace O := O.trans (hb.mono O.size)
  clear hb
  replace r1 : Row W1 g8 41 5 (fun _ => 0) := r1
  replace r2 : Row W1 g9 41 5 (fun _ => 0) := r2
  have SB := hide ((RB.setOther (k := g8) (by omega) 0 (arr 5 sm).toList).setOther (k := g9) (by omega) 0 (arr 5 df).toList)
  have SX := hide ((RX.setOther (k := g8) (by omega) 0 (arr 5 sm).toList).setOther (k := g9) (by omega) 0 (arr 5 df).toList)
  have S6 := hide ((R6.setOther (k := g8) (by omega) 0 (arr 5 sm).toList).setOther (k := g9) (by omega) 0 (arr 5 df).toList)
  have S7 := hide ((R7.setOther (k := g8) (by omega) 0 (arr 5 sm).toList).setOther (k := g9) (by omega) 0 (arr 5 df).toList)
  have S8 := hide ((r1.setAll sm).setOther (k := g9) (by omega) 0 (arr 5 df).toList)
  have S9 := hide ((r2.setOther (k := g8) (by omega) 0 (arr 5 sm).toList).setAll df)
  have hth := hide (r2.setOther (k := g8) (by omega) 0 (arr 5 sm).toList)
  have SO := hide (below_setCells (g := g9) (by omega) (arr 5 df).toList 0 (below_setCells (g := g8) (by omega) (arr 5 sm).toList 0 O))
  have hth1 := hide r1
  clear r1 r2 O RB RX R6 R7 
  refine wpList_store_mid rfl 41 _ _ rfl g8 0 (arr 5 sm) rfl rfl (by rw [arr_size]; exact hth1.out.there) (inf41 _) (arr_one _ _) ?_
  rw [show ∀ (a : Act) (v : Value), a.put none v = a from fun _ _ => rfl]
  refine wpList_store_mid rfl 41 _ _ rfl g9 0 (arr 5 df) rfl rfl (by rw [arr_size]; exact hth.out.there) (inf41 _) (arr_one _ _) ?_
  rw [show ∀ (a : Act) (v : Value), a.put none v = a from fun _ _ => rfl]
  go_wp2_with fail
  try rw [show ∀ (a : Act) (v : Value), a.put none v = a from fun _ _ => rfl]
  have RB := SB.out
  have RX := SX.out
  have R6 := S6.out
  have R7 := S7.out
  have R8 := S8.out
  have R9 := S9.out
  have O := SO.out
  clear hth1 SO hth SB SX S6 S7 S8 S9
  generalize ((W1.setCells g8 0 (arr 5 sm).toList).setCells g9 0 (arr 5 df).toList) = V1 at *
  clear n1 lo n2 n3 lB lX l6 l7
  have L8a : Hid (∀ s : KW V1, s.w.rangeAt g8 0 (arr 5 sm).toList) := hide fun s => (R8.keep s.keep).all
  have L9a : Hid (∀ s : KW V1, s.w.rangeAt g9 0 (arr 5 df).toList) := hide fun s => (R9.keep s.keep).all
  refine wp_region_keep_alloc2 (Z := .cells #[Value.int IntKind.u64 0, Value.int IntKind.u64 0, Value.int IntKind.u64 0, Value.int IntKind.u64 0, Value.int IntKind.u64 0] 41) (Y := .cells #[Value.int IntKind.u64 0, Value.int IntKind.u64 0, Value.int IntKind.u64 0, Value.int IntKind.u64 0, Value.int IntKind.u64 0] 41) 6 (by kernel_rfl) (by kernel_rfl) rfl rfl rfl rfl (fun _ _ => by kernel_rfl) (fun _ _ => by kernel_rfl) ?_
  simp only [List.take_succ_cons, List.take_zero]
  refine wpK_load rfl 41 _ rfl g8 0 (by kernel_rfl) 5 sm L8a.out _ Try.underlying41 rfl info41 ?_
  refine wpK_load rfl 41 _ rfl g8 0 (by kernel_rfl) 5 sm L8a.out _ Try.underlying41 rfl info41 ?_
  refine wpK_call 27 #[.agg (arr 5 sm), .agg (arr 5 sm)] (.agg (arr 5 aa)) rfl (fun _ => by kernel_rfl) F.out.h3 ?_
  refine wpK_load rfl 41 _ rfl g9 0 (by kernel_rfl) 5 df L9a.out _ Try.underlying41 rfl info41 ?_
  refine wpK_load rfl 41 _ rfl g9 0 (by kernel_rfl) 5 df L9a.out _ Try.underlying41 rfl info41 ?_
  refine wpK_call 27 #[.agg (arr 5 df), .agg (arr 5 df)] (.agg (arr 5 bb)) rfl (fun _ => by kernel_rfl) F.out.h4 ?_
  refine wpK_nil ?_
  intro W2 g10 g11 hb n1 n2 n3 r1 r2 a2 ha2
  simp [go_sem] at ha2
  subst ha2
  clear L8a L9a
  have lB := RB.lt
  have lX := RX.lt
  have l6 := R6.lt
  have l7 := R7.lt
  have l8 := R8.lt
  have l9 := R9.lt
  replace RB := RB.keep hb
  replace RX := RX.keep hb
  replace R6 := R6.keep hb
  replace R7 := R7.keep hb
  replace R8 := R8.keep hb
  replace R9 := R9.keep hb
  have lo := O.size
  replace O := O.trans (hb.mono O.size)
  clear hb
  replace r1 : Row W2 g10 41 5 (fun _ => 0) := r1
  replace r2 : Row W2 g11 41 5 (fun _ => 0) := r2
  have SB := hide ((RB.setOther (k := g10) (by omega) 0 (arr 5 aa).toList).setOther (k := g11) (by omega) 0 (arr 5 bb).toList)
  have SX := hide ((RX.setOther (k := g10) (by omega) 0 (arr 5 aa).toList).setOther (k := g11) (by omega) 0 (arr 5 bb).toList)
  have S6 := hide ((R6.setOther (k := g10) (by omega) 0 (arr 5 aa).toList).setOther (k := g11) (by omega) 0 (arr 5 bb).toList)
  have S7 := hide ((R7.setOther (k := g10) (by omega) 0 (arr 5 aa).toList).setOther (k := g11) (by omega) 0 (arr 5 bb).toList)
  have S8 := hide ((R8.setOther (k := g10) (by omega) 0 (arr 5 aa).toList).setOther (k := g11) (by omega) 0 (arr 5 bb).toList)
  have S9 := hide ((R9.setOther (k := g10) (by omega) 0 (arr 5 aa).toList).setOther (k := g11) (by omega) 0 (arr 5 bb).toList)
  have S10 := hide ((r1.setAll aa).setOther (k := g11) (by omega) 0 (arr 5 bb).toList)
  have S11 := hide ((r2.setOther (k := g10) (by omega) 0 (arr 5 aa).toList).setAll bb)
  have hth := hide (r2.setOther (k := g10) (by omega) 0 (arr 5 aa).toList)
  have SO := hide (below_setCells (g := g11) (by omega) (arr 5 bb).toList 0 (below_setCells (g := g10) (by omega) (arr 5 aa).toList 0 O))
  have hth1 := hide r1
  clear r1 r2 O RB RX R6 R7 R8 R9 
  refine wpList_store_mid rfl 41 _ _ rfl g10 0 (arr 5 aa) rfl rfl (by rw [arr_size]; exact hth1.out.there) (inf41 _) (arr_one _ _) ?_
  rw [show ∀ (a : Act) (v : Value), a.put none v = a from fun _ _ => rfl]
  refine wpList_store_mid rfl 41 _ _ rfl g11 0 (arr 5 bb) rfl rfl (by rw [arr_size]; exact hth.out.there) (inf41 _) (arr_one _ _) ?_
  rw [show ∀ (a : Act) (v : Value), a.put none v = a from fun _ _ => rfl]
  go_wp2_with (first | (refine wpList_load_row rfl 41 _ rfl g10 rfl 41 (arr 5 aa) (0, 0) _ S10.out Try.underlying41 rfl (inf41 _) ?_) | (refine wpList_load_row rfl 41 _ rfl g11 rfl 41 (arr 5 bb) (0, 0) _ S11.out Try.underlying41 rfl (inf41 _) ?_))
  try rw [show ∀ (a : Act) (v : Value), a.put none v = a from fun _ _ => rfl]
  have RB := SB.out
  have RX := SX.out
  have R6 := S6.out
  have R7 := S7.out
  have R8 := S8.out
  have R9 := S9.out
  have R10 := S10.out
  have R11 := S11.out
  have O := SO.out
  clear hth1 SO hth SB SX S6 S7 S8 S9 S10 S11
  generalize ((W2.setCells g10 0 (arr 5 aa).toList).setCells g11 0 (arr 5 bb).toList) = V2 at *
  clear n1 lo n2 n3 lB lX l6 l7 l8 l9
  refine (F.out.h5 _).mono ?_
  rintro _ w3 ⟨rfl, hb⟩
  replace RB := RB.keep hb
  replace RX := RX.keep hb
  replace R6 := R6.keep hb
  replace R7 := R7.keep hb
  replace R8 := R8.keep hb
  replace R9 := R9.keep hb
  replace R10 := R10.keep hb
  replace R11 := R11.keep hb
  replace O := O.trans (hb.mono O.size)
  clear hb
  have RC : Row (w3.alloc (.cells #[Value.int IntKind.u64 0, Value.int IntKind.u64 0, Value.int IntKind.u64 0, Value.int IntKind.u64 0, Value.int IntKind.u64 0] 41)) w3.heap.size 41 5 (fun _ => 0) := Row.new w3 41 5 (fun _ => 0)
  have BB := below_setCells (g := w3.heap.size) (Nat.le_refl _) (arr 5 ee).toList 0 (new_below w3 (.cells #[Value.int IntKind.u64 0, Value.int IntKind.u64 0, Value.int IntKind.u64 0, Value.int IntKind.u64 0, Value.int IntKind.u64 0] 41))
  have SB := hide (RB.keep BB)
  have SX := hide (RX.keep BB)
  have S6 := hide (R6.keep BB)
  have S7 := hide (R7.keep BB)
  have S8 := hide (R8.keep BB)
  have S9 := hide (R9.keep BB)
  have S10 := hide (R10.keep BB)
  have S11 := hide (R11.keep BB)
  have S12 := hide (RC.setAll ee)
  have SO := hide (O.trans (BB.mono O.size))
  clear O BB RB RX R6 R7 R8 R9 R10 R11
  go_wp2_with (refine wpList_store_mid rfl 41 _ _ rfl w3.heap.size 0 (arr 5 ee) rfl rfl ?t3a (inf41 _) (arr_one _ _) ?_)
  case t3a => rw [arr_size]; exact RC.there
  try rw [show ∀ (a : Act) (v : Value), a.put none v = a from fun _ _ => rfl]
  clear RC
  have RB := SB.out
  have RX := SX.out
  have R6 := S6.out
  have R7 := S7.out
  have R8 := S8.out
  have R9 := S9.out
  have R10 := S10.out
  have R11 := S11.out
  have R12 := S12.out
  have O := SO.out
  clear SO SB SX S6 S7 S8 S9 S10 S11 S12
  generalize w3.heap.size = g12 at *
  generalize (w3.alloc (.cells #[Value.int IntKind.u64 0, Value.int IntKind.u64 0, Value.int IntKind.u64 0, Value.int IntKind.u64 0, Value.int IntKind.u64 0] 41)).setCells g12 0 (arr 5 ee).toList = V3b at *
  have LBx : Hid (∀ s : KW V3b, s.w.rangeAt (w.heap.size + 1) 0 (arr 5 bx).toList) := hide fun s => (RB.keep s.keep).px
  have LBz : Hid (∀ s : KW V3b, s.w.rangeAt (w.heap.size + 1) 5 (arr 5 bz).toList) := hide fun s => (RB.keep s.keep).pz
  have L8a : Hid (∀ s : KW V3b, s.w.rangeAt g8 0 (arr 5 sm).toList) := hide fun s => (R8.keep s.keep).all
  have L9a : Hid (∀ s : KW V3b, s.w.rangeAt g9 0 (arr 5 df).toList) := hide fun s => (R9.keep s.keep).all
  refine wp_region_keep_alloc2 (Z := .cells #[Value.int IntKind.u64 0, Value.int IntKind.u64 0, Value.int IntKind.u64 0, Value.int IntKind.u64 0, Value.int IntKind.u64 0] 41) (Y := .cells #[Value.int IntKind.u64 0, Value.int IntKind.u64 0, Value.int IntKind.u64 0, Value.int IntKind.u64 0, Value.int IntKind.u64 0] 41) 14 (by kernel_rfl) (by kernel_rfl) rfl rfl rfl rfl (fun _ _ => by kernel_rfl) (fun _ _ => by kernel_rfl) ?_
  simp only [List.take_succ_cons, List.take_zero]
  refine wpK_val (.pointer (some ⟨w.heap.size + 1, 0, none⟩)) rfl (fun _ => by kernel_rfl) ?_
  refine wpK_load rfl 41 _ rfl (w.heap.size + 1) 0 (by kernel_rfl) 5 bx LBx.out _ Try.underlying41 rfl info41 ?_
  refine wpK_val (.pointer (some ⟨w.heap.size + 1, 5, none⟩)) rfl (fun _ => by kernel_rfl) ?_
  refine wpK_load rfl 41 _ rfl (w.heap.size + 1) 5 (by kernel_rfl) 5 bz LBz.out _ Try.underlying41 rfl info41 ?_
  refine wpK_call 45 #[.agg (arr 5 bx), .agg (arr 5 bz)] (.agg (arr 5 u1)) rfl (fun _ => by kernel_rfl) F.out.h6 ?_
  refine wpK_load rfl 41 _ rfl g8 0 (by kernel_rfl) 5 sm L8a.out _ Try.underlying41 rfl info41 ?_
  refine wpK_call 27 #[.agg (arr 5 u1), .agg (arr 5 sm)] (.agg (arr 5 da)) rfl (fun _ => by kernel_rfl) F.out.h7 ?_
  refine wpK_val (.pointer (some ⟨w.heap.size + 1, 0, none⟩)) rfl (fun _ => by kernel_rfl) ?_
  refine wpK_load rfl 41 _ rfl (w.heap.size + 1) 0 (by kernel_rfl) 5 bx LBx.out _ Try.underlying41 rfl info41 ?_
  refine wpK_val (.pointer (some ⟨w.heap.size + 1, 5, none⟩)) rfl (fun _ => by kernel_rfl) ?_
  refine wpK_load rfl 41 _ rfl (w.heap.size + 1) 5 (by kernel_rfl) 5 bz LBz.out _ Try.underlying41 rfl info41 ?_
  refine wpK_call 44 #[.agg (arr 5 bx), .agg (arr 5 bz)] (.agg (arr 5 u2)) rfl (fun _ => by kernel_rfl) F.out.h8 ?_
  refine wpK_load rfl 41 _ rfl g9 0 (by kernel_rfl) 5 df L9a.out _ Try.underlying41 rfl info41 ?_
  refine wpK_call 27 #[.agg (arr 5 u2), .agg (arr 5 df)] (.agg (arr 5 cb)) rfl (fun _ => by kernel_rfl) F.out.h9 ?_
  clear RB R8 R9
  refine wpK_nil ?_
  intro W3 g13 g14 hb n1 n2 n3 r1 r2 a2 ha2
  simp [go_sem] at ha2
  subst ha2
  clear LBx LBz L8a L9a
  have lX := RX.lt
  have l6 := R6.lt
  have l7 := R7.lt
  have l10 := R10.lt
  have l11 := R11.lt
  have l12 := R12.lt
  replace RX := RX.keep hb
  replace R6 := R6.keep hb
  replace R7 := R7.keep hb
  replace R10 := R10.keep hb
  replace R11 := R11.keep hb
  replace R12 := R12.keep hb
  have lo := O.size
  replace O := O.trans (hb.mono O.size)
  clear hb
  replace r1 : Row W3 g13 41 5 (fun _ => 0) := r1
  replace r2 : Row W3 g14 41 5 (fun _ => 0) := r2
  have SX := hide ((RX.setOther (k := g13) (by omega) 0 (arr 5 da).toList).setOther (k := g14) (by omega) 0 (arr 5 cb).toList)
  have S6 := hide ((R6.setOther (k := g13) (by omega) 0 (arr 5 da).toList).setOther (k := g14) (by omega) 0 (arr 5 cb).toList)
  have S7 := hide ((R7.setOther (k := g13) (by omega) 0 (arr 5 da).toList).setOther (k := g14) (by omega) 0 (arr 5 cb).toList)
  have S10 := hide ((R10.setOther (k := g13) (by omega) 0 (arr 5 da).toList).setOther (k := g14) (by omega) 0 (arr 5 cb).toList)
  have S11 := hide ((R11.setOther (k := g13) (by omega) 0 (arr 5 da).toList).setOther (k := g14) (by omega) 0 (arr 5 cb).toList)
  have S12 := hide ((R12.setOther (k := g13) (by omega) 0 (arr 5 da).toList).setOther (k := g14) (by omega) 0 (arr 5 cb).toList)
  have S13 := hide ((r1.setAll da).setOther (k := g14) (by omega) 0 (arr 5 cb).toList)
  have S14 := hide ((r2.setOther (k := g13) (by omega) 0 (arr 5 da).toList).setAll cb)
  have hth := hide (r2.setOther (k := g13) (by omega) 0 (arr 5 da).toList)
  have SO := hide (below_setCells (g := g14) (by omega) (arr 5 cb).toList 0 (below_setCells (g := g13) (by omega) (arr 5 da).toList 0 O))
  have hth1 := hide r1
  clear r1 r2 O RX R6 R7 R10 R11 R12 
  refine wpList_store_mid rfl 41 _ _ rfl g13 0 (arr 5 da) rfl rfl (by rw [arr_size]; exact hth1.out.there) (inf41 _) (arr_one _ _) ?_
  rw [show ∀ (a : Act) (v : Value), a.put none v = a from fun _ _ => rfl]
  refine wpList_store_mid rfl 41 _ _ rfl g14 0 (arr 5 cb) rfl rfl (by rw [arr_size]; exact hth.out.there) (inf41 _) (arr_one _ _) ?_
  rw [show ∀ (a : Act) (v : Value), a.put none v = a from fun _ _ => rfl]
  go_wp2_with fail
  try rw [show ∀ (a : Act) (v : Value), a.put none v = a from fun _ _ => rfl]
  have RX := SX.out
  have R6 := S6.out
  have R7 := S7.out
  have R10 := S10.out
  have R11 := S11.out
  have R12 := S12.out
  have R13 := S13.out
  have R14 := S14.out
  have O := SO.out
  clear hth1 SO hth SX S6 S7 S10 S11 S12 S13 S14
  generalize ((W3.setCells g13 0 (arr 5 da).toList).setCells g14 0 (arr 5 cb).toList) = V3 at *
  clear n1 lo n2 n3 lX l6 l7 l10 l11 l12
  have L13a : Hid (∀ s : KW V3, s.w.rangeAt g13 0 (arr 5 da).toList) := hide fun s => (R13.keep s.keep).all
  have L14a : Hid (∀ s : KW V3, s.w.rangeAt g14 0 (arr 5 cb).toList) := hide fun s => (R14.keep s.keep).all
  refine wp_region_keep_alloc2 (Z := .cells #[Value.int IntKind.u64 0, Value.int IntKind.u64 0, Value.int IntKind.u64 0, Value.int IntKind.u64 0, Value.int IntKind.u64 0] 41) (Y := .cells #[Value.int IntKind.u64 0, Value.int IntKind.u64 0, Value.int IntKind.u64 0, Value.int IntKind.u64 0, Value.int IntKind.u64 0] 41) 6 (by kernel_rfl) (by kernel_rfl) rfl rfl rfl rfl (fun _ _ => by kernel_rfl) (fun _ _ => by kernel_rfl) ?_
  simp only [List.take_succ_cons, List.take_zero]
  refine wpK_load rfl 41 _ rfl g13 0 (by kernel_rfl) 5 da L13a.out _ Try.underlying41 rfl info41 ?_
  refine wpK_load rfl 41 _ rfl g14 0 (by kernel_rfl) 5 cb L14a.out _ Try.underlying41 rfl info41 ?_
  refine wpK_call 44 #[.agg (arr 5 da), .agg (arr 5 cb)] (.agg (arr 5 ps)) rfl (fun _ => by kernel_rfl) F.out.h10 ?_
  refine wpK_load rfl 41 _ rfl g13 0 (by kernel_rfl) 5 da L13a.out _ Try.underlying41 rfl info41 ?_
  refine wpK_load rfl 41 _ rfl g14 0 (by kernel_rfl) 5 cb L14a.out _ Try.underlying41 rfl info41 ?_
  refine wpK_call 45 #[.agg (arr 5 da), .agg (arr 5 cb)] (.agg (arr 5 ms)) rfl (fun _ => by kernel_rfl) F.out.h11 ?_
  clear R13 R14
  refine wpK_nil ?_
  intro W4 g15 g16 hb n1 n2 n3 r1 r2 a2 ha2
  simp [go_sem] at ha2
  subst ha2
  clear L13a L14a
  have lX := RX.lt
  have l6 := R6.lt
  have l7 := R7.lt
  have l10 := R10.lt
  have l11 := R11.lt
  have l12 := R12.lt
  replace RX := RX.keep hb
  replace R6 := R6.keep hb
  replace R7 := R7.keep hb
  replace R10 := R10.keep hb
  replace R11 := R11.keep hb
  replace R12 := R12.keep hb
  have lo := O.size
  replace O := O.trans (hb.mono O.size)
  clear hb
  replace r1 : Row W4 g15 41 5 (fun _ => 0) := r1
  replace r2 : Row W4 g16 41 5 (fun _ => 0) := r2
  have SX := hide ((RX.setOther (k := g15) (by omega) 0 (arr 5 ps).toList).setOther (k := g16) (by omega) 0 (arr 5 ms).toList)
  have S6 := hide ((R6.setOther (k := g15) (by omega) 0 (arr 5 ps).toList).setOther (k := g16) (by omega) 0 (arr 5 ms).toList)
  have S7 := hide ((R7.setOther (k := g15) (by omega) 0 (arr 5 ps).toList).setOther (k := g16) (by omega) 0 (arr 5 ms).toList)
  have S10 := hide ((R10.setOther (k := g15) (by omega) 0 (arr 5 ps).toList).setOther (k := g16) (by omega) 0 (arr 5 ms).toList)
  have S11 := hide ((R11.setOther (k := g15) (by omega) 0 (arr 5 ps).toList).setOther (k := g16) (by omega) 0 (arr 5 ms).toList)
  have S12 := hide ((R12.setOther (k := g15) (by omega) 0 (arr 5 ps).toList).setOther (k := g16) (by omega) 0 (arr 5 ms).toList)
  have S15 := hide ((r1.setAll ps).setOther (k := g16) (by omega) 0 (arr 5 ms).toList)
  have S16 := hide ((r2.setOther (k := g15) (by omega) 0 (arr 5 ps).toList).setAll ms)
  have hth := hide (r2.setOther (k := g15) (by omega) 0 (arr 5 ps).toList)
  have SO := hide (below_setCells (g := g16) (by omega) (arr 5 ms).toList 0 (below_setCells (g := g15) (by omega) (arr 5 ps).toList 0 O))
  have hth1 := hide r1
  clear r1 r2 O RX R6 R7 R10 R11 R12 
  refine wpList_store_mid rfl 41 _ _ rfl g15 0 (arr 5 ps) rfl rfl (by rw [arr_size]; exact hth1.out.there) (inf41 _) (arr_one _ _) ?_
  rw [show ∀ (a : Act) (v : Value), a.put none v = a from fun _ _ => rfl]
  refine wpList_store_mid rfl 41 _ _ rfl g16 0 (arr 5 ms) rfl rfl (by rw [arr_size]; exact hth.out.there) (inf41 _) (arr_one _ _) ?_
  rw [show ∀ (a : Act) (v : Value), a.put none v = a from fun _ _ => rfl]
  go_wp2_with fail
  try rw [show ∀ (a : Act) (v : Value), a.put none v = a from fun _ _ => rfl]
  have RX := SX.out
  have R6 := S6.out
  have R7 := S7.out
  have R10 := S10.out
  have R11 := S11.out
  have R12 := S12.out
  have R15 := S15.out
  have R16 := S16.out
  have O := SO.out
  clear hth1 SO hth SX S6 S7 S10 S11 S12 S15 S16
  generalize ((W4.setCells g15 0 (arr 5 ps).toList).setCells g16 0 (arr 5 ms).toList) = V4 at *
  clear n1 lo n2 n3 lX l6 l7 l10 l11 l12
  have L10a : Hid (∀ s : KW V4, s.w.rangeAt g10 0 (arr 5 aa).toList) := hide fun s => (R10.keep s.keep).all
  have L11a : Hid (∀ s : KW V4, s.w.rangeAt g11 0 (arr 5 bb).toList) := hide fun s => (R11.keep s.keep).all
  have L12a : Hid (∀ s : KW V4, s.w.rangeAt g12 0 (arr 5 ee).toList) := hide fun s => (R12.keep s.keep).all
  refine wp_region_keep_alloc (Z := .cells #[Value.int IntKind.u64 0, Value.int IntKind.u64 0, Value.int IntKind.u64 0, Value.int IntKind.u64 0, Value.int IntKind.u64 0, Value.int IntKind.u64 0, Value.int IntKind.u64 0, Value.int IntKind.u64 0, Value.int IntKind.u64 0, Value.int IntKind.u64 0] 54) 11 (by kernel_rfl) (by kernel_rfl) rfl rfl (fun _ _ => by kernel_rfl) ?_
  simp only [List.take_succ_cons, List.take_zero, List.drop_succ_cons, List.drop_zero]
  refine wpK_load rfl 41 _ rfl g10 0 (by kernel_rfl) 5 aa L10a.out _ Try.underlying41 rfl info41 ?_
  refine wpK_load rfl 41 _ rfl g11 0 (by kernel_rfl) 5 bb L11a.out _ Try.underlying41 rfl info41 ?_
  refine wpK_call 27 #[.agg (arr 5 aa), .agg (arr 5 bb)] (.agg (arr 5 dx)) rfl (fun _ => by kernel_rfl) F.out.h12 ?_
  refine wpK_load rfl 41 _ rfl g12 0 (by kernel_rfl) 5 ee L12a.out _ Try.underlying41 rfl info41 ?_
  refine wpK_load rfl 41 _ rfl g10 0 (by kernel_rfl) 5 aa L10a.out _ Try.underlying41 rfl info41 ?_
  refine wpK_call 20 #[.int .u32 121665] (.agg (arr 5 k1)) rfl (fun _ => by kernel_rfl) F.out.h13 ?_
  refine wpK_load rfl 41 _ rfl g12 0 (by kernel_rfl) 5 ee L12a.out _ Try.underlying41 rfl info41 ?_
  refine wpK_call 27 #[.agg (arr 5 k1), .agg (arr 5 ee)] (.agg (arr 5 k2)) rfl (fun _ => by kernel_rfl) F.out.h14 ?_
  refine wpK_call 44 #[.agg (arr 5 aa), .agg (arr 5 k2)] (.agg (arr 5 k3)) rfl (fun _ => by kernel_rfl) F.out.h15 ?_
  refine wpK_call 27 #[.agg (arr 5 ee), .agg (arr 5 k3)] (.agg (arr 5 dz)) rfl (fun _ => by kernel_rfl) F.out.h16 ?_
  refine wpK_val (.agg (arr 10 (pj dx dz))) rfl (fun _ => by kernel_rfl) ?_
  clear R10 R11 R12
  refine wpK_nil ?_
  intro W5 g17 hb n1 r1 a2 ha2
  simp [go_sem] at ha2
  subst ha2
  clear L10a L11a L12a
  have lX := RX.lt
  have l6 := R6.lt
  have l7 := R7.lt
  have l15 := R15.lt
  have l16 := R16.lt
  replace RX := RX.keep hb
  replace R6 := R6.keep hb
  replace R7 := R7.keep hb
  replace R15 := R15.keep hb
  replace R16 := R16.keep hb
  have lo := O.size
  replace O := O.trans (hb.mono O.size)
  clear hb
  replace r1 : Row W5 g17 54 10 (fun _ => 0) := r1
  have SX := hide (RX.setOther (k := g17) (by omega) 0 (arr 10 (pj dx dz)).toList)
  have S6 := hide (R6.setOther (k := g17) (by omega) 0 (arr 10 (pj dx dz)).toList)
  have S7 := hide (R7.setOther (k := g17) (by omega) 0 (arr 10 (pj dx dz)).toList)
  have S15 := hide (R15.setOther (k := g17) (by omega) 0 (arr 10 (pj dx dz)).toList)
  have S16 := hide (R16.setOther (k := g17) (by omega) 0 (arr 10 (pj dx dz)).toList)
  have S17 := hide (r1.setAll (pj dx dz))
  have SO := hide (below_setCells (g := g17) (by omega) (arr 10 (pj dx dz)).toList 0 O)
  have hth1 := hide r1
  clear r1 O RX R6 R7 R15 R16 
  refine wpList_store_mid rfl 54 _ _ rfl g17 0 (arr 10 (pj dx dz)) rfl rfl (by rw [arr_size]; exact hth1.out.there) (inf54 _) (arr_one _ _) ?_
  rw [show ∀ (a : Act) (v : Value), a.put none v = a from fun _ _ => rfl]
  go_wp2_with fail
  try rw [show ∀ (a : Act) (v : Value), a.put none v = a from fun _ _ => rfl]
  have RX := SX.out
  have R6 := S6.out
  have R7 := S7.out
  have R15 := S15.out
  have R16 := S16.out
  have R17 := S17.out
  have O := SO.out
  clear hth1 SO SX S6 S7 S15 S16 S17
  generalize (W5.setCells g17 0 (arr 10 (pj dx dz)).toList) = V5 at *
  have d17 : w.heap.size + 1 + 1 + 1 + 1 < g17 := by omega
  clear n1 lo lX l6 l7 l15 l16
  have L15a : Hid (∀ s : KW V5, s.w.rangeAt g15 0 (arr 5 ps).toList) := hide fun s => (R15.keep s.keep).all
  have L16a : Hid (∀ s : KW V5, s.w.rangeAt g16 0 (arr 5 ms).toList) := hide fun s => (R16.keep s.keep).all
  have LXa : Hid (∀ s : KW V5, s.w.rangeAt (w.heap.size + 1 + 1) 0 (arr 5 xx).toList) := hide fun s => (RX.keep s.keep).all
  refine wp_region_keep_alloc (Z := .cells #[Value.int IntKind.u64 0, Value.int IntKind.u64 0, Value.int IntKind.u64 0, Value.int IntKind.u64 0, Value.int IntKind.u64 0, Value.int IntKind.u64 0, Value.int IntKind.u64 0, Value.int IntKind.u64 0, Value.int IntKind.u64 0, Value.int IntKind.u64 0] 54) 9 (by kernel_rfl) (by kernel_rfl) rfl rfl (fun _ _ => by kernel_rfl) ?_
  simp only [List.take_succ_cons, List.take_zero, List.drop_succ_cons, List.drop_zero]
  refine wpK_load rfl 41 _ rfl g15 0 (by kernel_rfl) 5 ps L15a.out _ Try.underlying41 rfl info41 ?_
  refine wpK_load rfl 41 _ rfl g15 0 (by kernel_rfl) 5 ps L15a.out _ Try.underlying41 rfl info41 ?_
  refine wpK_call 27 #[.agg (arr 5 ps), .agg (arr 5 ps)] (.agg (arr 5 px)) rfl (fun _ => by kernel_rfl) F.out.h17 ?_
  refine wpK_load rfl 41 _ rfl (w.heap.size + 1 + 1) 0 (by kernel_rfl) 5 xx LXa.out _ Try.underlying41 rfl info41 ?_
  refine wpK_load rfl 41 _ rfl g16 0 (by kernel_rfl) 5 ms L16a.out _ Try.underlying41 rfl info41 ?_
  refine wpK_load rfl 41 _ rfl g16 0 (by kernel_rfl) 5 ms L16a.out _ Try.underlying41 rfl info41 ?_
  refine wpK_call 27 #[.agg (arr 5 ms), .agg (arr 5 ms)] (.agg (arr 5 m2)) rfl (fun _ => by kernel_rfl) F.out.h18 ?_
  refine wpK_call 27 #[.agg (arr 5 xx), .agg (arr 5 m2)] (.agg (arr 5 pz)) rfl (fun _ => by kernel_rfl) F.out.h19 ?_
  refine wpK_val (.agg (arr 10 (pj px pz))) rfl (fun _ => by kernel_rfl) ?_
  clear R15 R16 RX
  refine wpK_nil ?_
  intro W6 g18 hb n1 r1 a2 ha2
  simp [go_sem] at ha2
  subst ha2
  clear L15a L16a LXa
  have l6 := R6.lt
  have l7 := R7.lt
  have l17 := R17.lt
  replace R6 := R6.keep hb
  replace R7 := R7.keep hb
  replace R17 := R17.keep hb
  have lo := O.size
  replace O := O.trans (hb.mono O.size)
  clear hb
  replace r1 : Row W6 g18 54 10 (fun _ => 0) := r1
  have S6 := hide (R6.setOther (k := g18) (by omega) 0 (arr 10 (pj px pz)).toList)
  have S7 := hide (R7.setOther (k := g18) (by omega) 0 (arr 10 (pj px pz)).toList)
  have S17 := hide (R17.setOther (k := g18) (by omega) 0 (arr 10 (pj px pz)).toList)
  have S18 := hide (r1.setAll (pj px pz))
  have SO := hide (below_setCells (g := g18) (by omega) (arr 10 (pj px pz)).toList 0 O)
  have hth1 := hide r1
  clear r1 O R6 R7 R17 
  refine wpList_store_mid rfl 54 _ _ rfl g18 0 (arr 10 (pj px pz)) rfl rfl (by rw [arr_size]; exact hth1.out.there) (inf54 _) (arr_one _ _) ?_
  rw [show ∀ (a : Act) (v : Value), a.put none v = a from fun _ _ => rfl]
  go_wp2_with fail
  try rw [show ∀ (a : Act) (v : Value), a.put none v = a from fun _ _ => rfl]
  have R6 := S6.out
  have R7 := S7.out
  have R17 := S17.out
  have R18 := S18.out
  have O := SO.out
  clear hth1 SO S6 S7 S17 S18
  generalize (W6.setCells g18 0 (arr 10 (pj px pz)).toList) = V6 at *
  have d18 : w.heap.size + 1 + 1 + 1 + 1 < g18 := by omega
  clear n1 lo l6 l7 l17
  clear F
  generalize hfd : pj dx dz = fd at *
  generalize hfp : pj px pz = fp at *
  have HD := hide hfd
  have HP := hide hfp
  clear hfd hfp
  refine region_cut (fun a0 a' w' => a' = (a0.put (some 78) (.agg (arr 10 fd))).put (some 79) (.agg (arr 10 fp)) ∧ Row w' (w.heap.size + 1 + 1 + 1) 54 10 fd ∧ Row w' (w.heap.size + 1 + 1 + 1 + 1) 54 10 fp ∧ Below w.heap.size w w') (by kernel_rfl) ?_ ?_
  · clear R17 R18 R6 R7 O
    rintro _ w9 ⟨rfl, R6, R7, O⟩
    go_simp
    go_wp2_with fail
    exact bodyPost_ret (v := .tuple #[.agg (arr 10 fd), .agg (arr 10 fp)]) (results_two Try.results26 _ _ (w.heap.size + 1 + 1 + 1) (w.heap.size + 1 + 1 + 1 + 1) 54 54 (arr 10 fd) (arr 10 fp) (0, 0) (0, 0) _ _ rfl rfl R6 R7 Try.underlying54 rfl (inf54 _) Try.underlying54 rfl (inf54 _)) rfl ⟨by rw [HD.out, HP.out], O⟩
  · intro hrest
    replace R17 := rowD R17
    replace R18 := rowD R18
    replace R6 := rowD R6
    replace R7 := rowD R7
    replace O := O.drew
    generalize V6.drew = W0 at *
    refine wpAny_ready (rs := [0, 1]) (by kernel_rfl) (by simp) ?_
    refine ready_load rfl rfl 54 _ rfl g17 (by kernel_rfl) 54 (arr 10 fd) (0, 0) _ R17 Try.underlying54 rfl (inf54 _) ?_ ?_
    · skip
      refine wpAny_ready (rs := [1, 2]) (by kernel_rfl) (by simp) ?_
      refine ready_load rfl rfl 54 _ rfl g18 (by kernel_rfl) 54 (arr 10 fp) (0, 0) _ R18 Try.underlying54 rfl (inf54 _) ?_ ?_
      · skip
        refine wpAny_ready (rs := [2]) (by kernel_rfl) (by simp) ?_
        refine ready_put (f' := fd) R6 rfl rfl 54 _ _ rfl (by kernel_rfl) (by kernel_rfl) (inf54 _) ?_ ?_
        · intro w201 R6 ho hu
          replace R17 := R17.at_ (ho g17 (by omega))
          replace R18 := R18.at_ (ho g18 (by omega))
          replace R7 := R7.at_ (ho (w.heap.size + 1 + 1 + 1 + 1) (by omega))
          replace O := hu _ _ (by omega) O
          clear ho hu
          refine wpAny_ready (rs := [3]) (by kernel_rfl) (by simp) ?_
          refine ready_put (f' := fp) R7 rfl rfl 54 _ _ rfl (by kernel_rfl) (by kernel_rfl) (inf54 _) ?_ ?_
          · intro w202 R7 ho hu
            replace R6 := R6.at_ (ho (w.heap.size + 1 + 1 + 1) (by omega))
            replace O := hu _ _ (by omega) O
            clear ho hu
            exact wpAny_done (by kernel_rfl) (hrest _ _ ⟨by kernel_rfl, R6, R7, O⟩) _
          exact AllReady.nil
        exact AllReady.nil
      refine ready_put (f' := fd) R6 rfl rfl 54 _ _ rfl (by kernel_rfl) (by kernel_rfl) (inf54 _) ?_ ?_
      · intro w203 R6 ho hu
        replace R17 := R17.at_ (ho g17 (by omega))
        replace R18 := R18.at_ (ho g18 (by omega))
        replace R7 := R7.at_ (ho (w.heap.size + 1 + 1 + 1 + 1) (by omega))
        replace O := hu _ _ (by omega) O
        clear ho hu
        refine wpAny_ready (rs := [1]) (by kernel_rfl) (by simp) ?_
        refine ready_load rfl rfl 54 _ rfl g18 (by kernel_rfl) 54 (arr 10 fp) (0, 0) _ R18 Try.underlying54 rfl (inf54 _) ?_ ?_
        · skip
          refine wpAny_ready (rs := [3]) (by kernel_rfl) (by simp) ?_
          refine ready_put (f' := fp) R7 rfl rfl 54 _ _ rfl (by kernel_rfl) (by kernel_rfl) (inf54 _) ?_ ?_
          · intro w204 R7 ho hu
            replace R6 := R6.at_ (ho (w.heap.size + 1 + 1 + 1) (by omega))
            replace O := hu _ _ (by omega) O
            clear ho hu
            exact wpAny_done (by kernel_rfl) (hrest _ _ ⟨by kernel_rfl, R6, R7, O⟩) _
          exact AllReady.nil
        exact AllReady.nil
      exact AllReady.nil
    refine ready_load rfl rfl 54 _ rfl g18 (by kernel_rfl) 54 (arr 10 fp) (0, 0) _ R18 Try.underlying54 rfl (inf54 _) ?_ ?_
    · skip
      refine wpAny_ready (rs := [0]) (by kernel_rfl) (by simp) ?_
      refine ready_load rfl rfl 54 _ rfl g17 (by kernel_rfl) 54 (arr 10 fd) (0, 0) _ R17 Try.underlying54 rfl (inf54 _) ?_ ?_
      · skip
        refine wpAny_ready (rs := [2]) (by kernel_rfl) (by simp) ?_
        refine ready_put (f' := fd) R6 rfl rfl 54 _ _ rfl (by kernel_rfl) (by kernel_rfl) (inf54 _) ?_ ?_
        · intro w205 R6 ho hu
          replace R17 := R17.at_ (ho g17 (by omega))
          replace R18 := R18.at_ (ho g18 (by omega))
          replace R7 := R7.at_ (ho (w.heap.size + 1 + 1 + 1 + 1) (by omega))
          replace O := hu _ _ (by omega) O
          clear ho hu
          refine wpAny_ready (rs := [3]) (by kernel_rfl) (by simp) ?_
          refine ready_put (f' := fp) R7 rfl rfl 54 _ _ rfl (by kernel_rfl) (by kernel_rfl) (inf54 _) ?_ ?_
          · intro w206 R7 ho hu
            replace R6 := R6.at_ (ho (w.heap.size + 1 + 1 + 1) (by omega))
            replace O := hu _ _ (by omega) O
            clear ho hu
            exact wpAny_done (by kernel_rfl) (hrest _ _ ⟨by kernel_rfl, R6, R7, O⟩) _
          exact AllReady.nil
        exact AllReady.nil
      exact AllReady.nil
    exact AllReady.nil

end Go.Proofs.Ytiiniodidkfbiaa
