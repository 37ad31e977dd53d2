/- The contract of alive: it answers true. -/
import Derived.Test.YtaaijicpdampiaaOrdT
namespace Go.Proofs.Ytaaijicpdampiaa
open Go.RowKit

theorem wpList_load_row_on {P : Program} {ops : Array Oper} {rest : List Oper} {o : Oper} {a : Act} {w : World} {Q : Exit → Act → World → Prop} (hw : Region.wanted o (yielded ops a.tmps) = true) (ty : TypeId) (x : Operand) (ho : o.op = .load ty x)
    (g : Nat) (hx : a.eval x = .pointer (some ⟨g, 0, none⟩)) (t : TypeId) (cs : Array Value) (fr : Nat × Nat) (d : TypeDesc) (hg : w.heap[g]? = some (.cells cs t fr))
    (hu : P.underlying ty = some d) (hd : (match d with | .struct _ | .array _ _ => true | _ => false) = true) (hi : (P.info? ty).map (·.size) = some cs.size)
    (h : wpList P ops Q rest (a.put o.dst (.agg cs)) w) : wpList P ops Q (o :: rest) a w :=
  wpList_step fun K hK => by
    rw [if_pos hw]
    exact wp_load_row ty x ho g hx t cs fr d hg hu hd hi (hK _ _ h)

/-- The order's bytes. -/
def oS : ByteArray := bs (rb oF 32)
theorem oS_size : oS.size = 32 := by decide +kernel
theorem oS_bv : bv oS 32 = Lm := by decide +kernel
theorem oS_of : ofN oS = 0 := by unfold ofN; rw [oS_size, oS_bv, Int.emod_self]
theorem oS_not : decide (bv oS 32 < Lm) = false := by rw [oS_bv]; simp

/-- 32 bytes 0. -/
def zS : ByteArray := bs (List.replicate 32 0)
theorem zS_size : zS.size = 32 := by decide +kernel
theorem zC_31 : ∀ h, ((clS zS)[31]'h).toNat = 64 := by decide +kernel

theorem make32 (w : World) : (Instr.makeSlice 48 (.int .i64 32) (.int .i64 32)).run Try.prog w = .ok (.slice (some ⟨w.heap.size, 0, none⟩) 32 32) (w.alloc (.cells #[Value.int IntKind.u8 0, Value.int IntKind.u8 0, Value.int IntKind.u8 0, Value.int IntKind.u8 0, Value.int IntKind.u8 0, Value.int IntKind.u8 0, Value.int IntKind.u8 0, Value.int IntKind.u8 0, Value.int IntKind.u8 0, Value.int IntKind.u8 0, Value.int IntKind.u8 0, Value.int IntKind.u8 0, Value.int IntKind.u8 0, Value.int IntKind.u8 0, Value.int IntKind.u8 0, Value.int IntKind.u8 0, Value.int IntKind.u8 0, Value.int IntKind.u8 0, Value.int IntKind.u8 0, Value.int IntKind.u8 0, Value.int IntKind.u8 0, Value.int IntKind.u8 0, Value.int IntKind.u8 0, Value.int IntKind.u8 0, Value.int IntKind.u8 0, Value.int IntKind.u8 0, Value.int IntKind.u8 0, Value.int IntKind.u8 0, Value.int IntKind.u8 0, Value.int IntKind.u8 0, Value.int IntKind.u8 0, Value.int IntKind.u8 0] 5)) := by kernel_rfl
theorem conv32 (w : World) : (convert 48 9 (.slice (some ⟨w.heap.size, 0, none⟩) 32 32)).run Try.prog (w.alloc (.cells #[Value.int IntKind.u8 0, Value.int IntKind.u8 0, Value.int IntKind.u8 0, Value.int IntKind.u8 0, Value.int IntKind.u8 0, Value.int IntKind.u8 0, Value.int IntKind.u8 0, Value.int IntKind.u8 0, Value.int IntKind.u8 0, Value.int IntKind.u8 0, Value.int IntKind.u8 0, Value.int IntKind.u8 0, Value.int IntKind.u8 0, Value.int IntKind.u8 0, Value.int IntKind.u8 0, Value.int IntKind.u8 0, Value.int IntKind.u8 0, Value.int IntKind.u8 0, Value.int IntKind.u8 0, Value.int IntKind.u8 0, Value.int IntKind.u8 0, Value.int IntKind.u8 0, Value.int IntKind.u8 0, Value.int IntKind.u8 0, Value.int IntKind.u8 0, Value.int IntKind.u8 0, Value.int IntKind.u8 0, Value.int IntKind.u8 0, Value.int IntKind.u8 0, Value.int IntKind.u8 0, Value.int IntKind.u8 0, Value.int IntKind.u8 0] 5)) = .ok (.string zS) (w.alloc (.cells #[Value.int IntKind.u8 0, Value.int IntKind.u8 0, Value.int IntKind.u8 0, Value.int IntKind.u8 0, Value.int IntKind.u8 0, Value.int IntKind.u8 0, Value.int IntKind.u8 0, Value.int IntKind.u8 0, Value.int IntKind.u8 0, Value.int IntKind.u8 0, Value.int IntKind.u8 0, Value.int IntKind.u8 0, Value.int IntKind.u8 0, Value.int IntKind.u8 0, Value.int IntKind.u8 0, Value.int IntKind.u8 0, Value.int IntKind.u8 0, Value.int IntKind.u8 0, Value.int IntKind.u8 0, Value.int IntKind.u8 0, Value.int IntKind.u8 0, Value.int IntKind.u8 0, Value.int IntKind.u8 0, Value.int IntKind.u8 0, Value.int IntKind.u8 0, Value.int IntKind.u8 0, Value.int IntKind.u8 0, Value.int IntKind.u8 0, Value.int IntKind.u8 0, Value.int IntKind.u8 0, Value.int IntKind.u8 0, Value.int IntKind.u8 0] 5)) :=
  conv_bytes _ w.heap.size 5 (List.replicate 32 0) 32 32 (0, 0) (heap_alloc_new w _) rfl

theorem same0 (w : World) : Calls Try.prog 12 #[.agg (arr 4 (d64 0)), .agg #[Value.int IntKind.u64 0, Value.int IntKind.u64 0, Value.int IntKind.u64 0, Value.int IntKind.u64 0]] w fun x w' => x = .returned (.bool true) ∧ Below w.heap.size w w' :=
  same_any 0 0 w ⟨by decide, Lm_pos⟩ ⟨by decide, Lm_pos⟩

set_option maxRecDepth 100000 in
set_option maxHeartbeats 2000000 in
theorem alive_any (w : World) : Calls Try.prog 6 #[] w fun r w' => r = .returned (.bool true) ∧ Below w.heap.size w w' := by
  have H1 : Hid (∀ w, Calls Try.prog 24 #[.agg (arr 16 oF)] w fun r w' => r = .returned (.string oS) ∧ Below w.heap.size w w') := hide fun w => rbytes_any oF w oF_dig
  have H2 : Hid (∀ w, Calls Try.prog 7 #[.string oS] w fun r w' => r = .returned (.tuple #[.agg (arr 4 (d64 0)), .int .i64 0]) ∧ Below w.heap.size w w') := hide fun w => by
    have := of_any oS w (by rw [oS_size]; omega) (Or.inl oS_size)
    rwa [oS_of] at this
  have H3 : Hid (∀ w, Calls Try.prog 9 #[.string oS] w fun r w' => r = .returned (.bool false) ∧ Below w.heap.size w w') := hide fun w => by
    have := canon_yes oS w oS_size
    rwa [oS_not] at this
  have H4 : Hid (∀ w, Calls Try.prog 8 #[.string zS] w fun r w' => r = .returned (.tuple #[.string (clS zS), .int .i64 0]) ∧ Below w.heap.size w w') := hide fun w => clamp_yes zS w zS_size
  have H5 : Hid (∀ w, Calls Try.prog 12 #[.agg (arr 4 (d64 0)), .agg #[Value.int IntKind.u64 0, Value.int IntKind.u64 0, Value.int IntKind.u64 0, Value.int IntKind.u64 0]] w fun x w' => x = .returned (.bool true) ∧ Below w.heap.size w w') := hide same0
  have c1 := clS_size zS
  have c2 := zC_31
  generalize oS = l at *
  generalize clS zS = c at *
  go_enter Try.func6, Try.ntmps6
  go_wp2_with fail
  refine (order_any _).mono ?_
  rintro _ w1 ⟨rfl, O⟩
  go_wp2_with fail
  refine (H1.out _).mono ?_
  rintro _ w2 ⟨rfl, hb⟩
  replace O := O.trans (hb.mono O.size)
  clear hb H1
  go_wp2_with fail
  refine (H2.out _).mono ?_
  rintro _ w3 ⟨rfl, hb⟩
  replace O := O.trans (hb.mono O.size)
  clear hb H2
  have RC : Row (w3.alloc (.cells #[Value.int IntKind.u64 0, Value.int IntKind.u64 0, Value.int IntKind.u64 0, Value.int IntKind.u64 0] 27)) w3.heap.size 27 4 (fun _ => 0) := Row.new w3 27 4 (fun _ => 0)
  have BB := below_setCells (g := w3.heap.size) (Nat.le_refl _) (arr 4 (d64 0)).toList 0 (new_below w3 (.cells #[Value.int IntKind.u64 0, Value.int IntKind.u64 0, Value.int IntKind.u64 0, Value.int IntKind.u64 0] 27))
  have RA := hide (RC.setAll (d64 0))
  have OO := hide (O.trans (BB.mono O.size))
  clear O BB
  generalize hf0 : d64 0 = f0 at RA OO H5 ⊢
  have HF := hide hf0
  clear hf0
  go_wp2_with (refine wpList_store_mid rfl 27 _ _ rfl w3.heap.size 0 (arr 4 f0) rfl rfl ?tha (info27 _) (arr_one _ _) ?_)
  case tha => rw [arr_size]; exact RC.there
  replace RC := RA.out
  have O := OO.out
  clear RA OO
  generalize w3.heap.size = ga at *
  generalize (w3.alloc (.cells #[Value.int IntKind.u64 0, Value.int IntKind.u64 0, Value.int IntKind.u64 0, Value.int IntKind.u64 0] 27)).setCells ga 0 (arr 4 f0).toList = W3 at *
  refine (of_no _ _ (by decide) (by decide)).mono ?_
  rintro _ w4 ⟨rfl, hb⟩
  replace RC := RC.keep hb
  replace O := O.trans (hb.mono O.size)
  clear hb
  rw [HF.out]
  have RD : Row (w4.alloc (.cells #[Value.int IntKind.u64 0, Value.int IntKind.u64 0, Value.int IntKind.u64 0, Value.int IntKind.u64 0] 27)) w4.heap.size 27 4 (fun _ => 0) := Row.new w4 27 4 (fun _ => 0)
  have BB := below_setCells (g := w4.heap.size) (Nat.le_refl _) (arr 4 f0).toList 0 (new_below w4 (.cells #[Value.int IntKind.u64 0, Value.int IntKind.u64 0, Value.int IntKind.u64 0, Value.int IntKind.u64 0] 27))
  have RA := hide (RC.keep BB)
  have OO := hide (O.trans (BB.mono O.size))
  clear O BB RC
  have m1 := make32 ((w4.alloc (.cells #[Value.int IntKind.u64 0, Value.int IntKind.u64 0, Value.int IntKind.u64 0, Value.int IntKind.u64 0] 27)).setCells w4.heap.size 0 (arr 4 f0).toList)
  have m2 := conv32 ((w4.alloc (.cells #[Value.int IntKind.u64 0, Value.int IntKind.u64 0, Value.int IntKind.u64 0, Value.int IntKind.u64 0] 27)).setCells w4.heap.size 0 (arr 4 f0).toList)
  go_wp2_with (refine wpList_store_mid rfl 27 _ _ rfl w4.heap.size 0 (arr 4 f0) rfl rfl ?thb (info27 _) (arr_one _ _) ?_)
  case thb => rw [arr_size]; exact RD.there
  refine (H4.out _).mono ?_
  rintro _ w5 ⟨rfl, hb⟩
  have hb' := hide hb
  clear hb
  have RC := RA.out.keep (new_below _ (.cells #[Value.int IntKind.u8 0, Value.int IntKind.u8 0, Value.int IntKind.u8 0, Value.int IntKind.u8 0, Value.int IntKind.u8 0, Value.int IntKind.u8 0, Value.int IntKind.u8 0, Value.int IntKind.u8 0, Value.int IntKind.u8 0, Value.int IntKind.u8 0, Value.int IntKind.u8 0, Value.int IntKind.u8 0, Value.int IntKind.u8 0, Value.int IntKind.u8 0, Value.int IntKind.u8 0, Value.int IntKind.u8 0, Value.int IntKind.u8 0, Value.int IntKind.u8 0, Value.int IntKind.u8 0, Value.int IntKind.u8 0, Value.int IntKind.u8 0, Value.int IntKind.u8 0, Value.int IntKind.u8 0, Value.int IntKind.u8 0, Value.int IntKind.u8 0, Value.int IntKind.u8 0, Value.int IntKind.u8 0, Value.int IntKind.u8 0, Value.int IntKind.u8 0, Value.int IntKind.u8 0, Value.int IntKind.u8 0, Value.int IntKind.u8 0] 5))
  have O := OO.out.trans ((new_below _ (.cells #[Value.int IntKind.u8 0, Value.int IntKind.u8 0, Value.int IntKind.u8 0, Value.int IntKind.u8 0, Value.int IntKind.u8 0, Value.int IntKind.u8 0, Value.int IntKind.u8 0, Value.int IntKind.u8 0, Value.int IntKind.u8 0, Value.int IntKind.u8 0, Value.int IntKind.u8 0, Value.int IntKind.u8 0, Value.int IntKind.u8 0, Value.int IntKind.u8 0, Value.int IntKind.u8 0, Value.int IntKind.u8 0, Value.int IntKind.u8 0, Value.int IntKind.u8 0, Value.int IntKind.u8 0, Value.int IntKind.u8 0, Value.int IntKind.u8 0, Value.int IntKind.u8 0, Value.int IntKind.u8 0, Value.int IntKind.u8 0, Value.int IntKind.u8 0, Value.int IntKind.u8 0, Value.int IntKind.u8 0, Value.int IntKind.u8 0, Value.int IntKind.u8 0, Value.int IntKind.u8 0, Value.int IntKind.u8 0, Value.int IntKind.u8 0] 5)).mono OO.out.size)
  clear RA OO m1 m2 H4 RD
  generalize ((w4.alloc (.cells #[Value.int IntKind.u64 0, Value.int IntKind.u64 0, Value.int IntKind.u64 0, Value.int IntKind.u64 0] 27)).setCells w4.heap.size 0 (arr 4 f0).toList).alloc (.cells #[Value.int IntKind.u8 0, Value.int IntKind.u8 0, Value.int IntKind.u8 0, Value.int IntKind.u8 0, Value.int IntKind.u8 0, Value.int IntKind.u8 0, Value.int IntKind.u8 0, Value.int IntKind.u8 0, Value.int IntKind.u8 0, Value.int IntKind.u8 0, Value.int IntKind.u8 0, Value.int IntKind.u8 0, Value.int IntKind.u8 0, Value.int IntKind.u8 0, Value.int IntKind.u8 0, Value.int IntKind.u8 0, Value.int IntKind.u8 0, Value.int IntKind.u8 0, Value.int IntKind.u8 0, Value.int IntKind.u8 0, Value.int IntKind.u8 0, Value.int IntKind.u8 0, Value.int IntKind.u8 0, Value.int IntKind.u8 0, Value.int IntKind.u8 0, Value.int IntKind.u8 0, Value.int IntKind.u8 0, Value.int IntKind.u8 0, Value.int IntKind.u8 0, Value.int IntKind.u8 0, Value.int IntKind.u8 0, Value.int IntKind.u8 0] 5) = W4 at *
  replace RC := RC.keep hb'.out
  replace O := O.trans (hb'.out.mono O.size)
  clear hb'
  go_wp2_with (refine wpList_load_row_on rfl 27 _ rfl ga rfl 27 (arr 4 f0) (0, 0) _ ?hg5 Try.underlying27 rfl (info27 _) ?_)
  case hg5 => exact RC
  refine (H5.out _).mono ?_
  rintro _ w6 ⟨rfl, hb⟩
  replace O := O.trans (hb.mono O.size)
  clear hb H5 RC
  go_wp2_with fail
  refine (H3.out _).mono ?_
  rintro _ w7 ⟨rfl, hb⟩
  replace O := O.trans (hb.mono O.size)
  clear hb H3
  have c3 := c2 (by omega)
  go_wp2
  go_ret
  exact ⟨rfl, O⟩

end Go.Proofs.Ytaaijicpdampiaa
