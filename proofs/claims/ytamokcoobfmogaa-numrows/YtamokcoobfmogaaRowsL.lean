/- The law NumRows, walked: it answers true. -/
import Derived.Test.YtamokcoobfmogaaOfL
import Derived.Test.YtamokcoobfmogaaAlive
import Derived.Test.YtamokcoobfmogaaRmul
import Derived.Test.YtamokcoobfmogaaRneg
import Derived.Deep.Cut
namespace Go.Proofs.Ytamokcoobfmogaa
open Go.RowKit

theorem wpList_load_row_on {P : Program} {ops : Array Oper} {rest : List Oper} {o : Oper} {a : Act} {w : World} {Q : Exit → Act → World → Prop} (hw : Region.wanted o (yielded ops a.tmps) = true) (ty : TypeId) (x : Operand) (ho : o.op = .load ty x)
    (g : Nat) (hx : a.eval x = .pointer (some ⟨g, 0, none⟩)) (t : TypeId) (cs : Array Value) (fr : Nat × Nat) (d : TypeDesc) (hg : w.heap[g]? = some (.cells cs t fr))
    (hu : P.underlying ty = some d) (hd : (match d with | .struct _ | .array _ _ => true | _ => false) = true) (hi : (P.info? ty).map (·.size) = some cs.size)
    (h : wpList P ops Q rest (a.put o.dst (.agg cs)) w) : wpList P ops Q (o :: rest) a w :=
  wpList_step fun K hK => by
    rw [if_pos hw]
    exact wp_load_row ty x ho g hx t cs fr d hg hu hd hi (hK _ _ h)

theorem EAt.of_block {W W' : World} {g : Nat} {x : E5} (h : EAt W g x) (hs : W.heap.size ≤ W'.heap.size) (hb : W'.heap[g]? = W.heap[g]?) : EAt W' g x := by
  have hc : ∀ o, W'.cell? ⟨g, o, none⟩ = W.cell? ⟨g, o, none⟩ := fun o => World.cell?_of_block (w := W) hb
  have hf : ∀ o, W'.frozen? ⟨g, o, none⟩ = W.frozen? ⟨g, o, none⟩ := fun o => World.frozen?_of_block (w := W) hb
  exact ⟨Nat.lt_of_lt_of_le h.size hs, fun o => (hf o).trans (h.free o), (hc 0).trans h.c0, (hc 1).trans h.c1, (hc 2).trans h.c2, (hc 3).trans h.c3, (hc 4).trans h.c4⟩

theorem EAt.setOther {W : World} {g k : Nat} {x : E5} (h : EAt W g x) (hk : g ≠ k) (o : Nat) (vs : List Value) : EAt (W.setCells k o vs) g x :=
  h.of_block (below_setCells (B := 0) (Nat.zero_le _) vs o (Below.refl 0 W)).size (heap_setCells_other k g hk vs W o)

theorem Row.put5 {W : World} {g k : Nat} {T : TypeId} {n : Nat} {f : Nat → Int} (h : Row W g T n f) (hk : g ≠ k) (z : E5) : Row (put5 W k z) g T n f :=
  ((((h.other (a := ⟨k, 0, none⟩) hk _).other (a := ⟨k, 1, none⟩) hk _).other (a := ⟨k, 2, none⟩) hk _).other (a := ⟨k, 3, none⟩) hk _).other (a := ⟨k, 4, none⟩) hk _

set_option maxRecDepth 100000 in
set_option maxHeartbeats 1000000 in
theorem rows_no (s : ByteArray) (l : Option Addr) (len cap : Nat) (w : World) (hs : s.size ≠ 32) :
    Calls Try.prog 6 #[.string s, .slice l len cap] w fun r w' => r = .returned (.bool true) ∧ Below w.heap.size w w' := by
  go_enter Try.func6, Try.ntmps6
  go_wp2_with fail
  refine (oft_no s _ hs).mono ?_
  rintro _ w1 ⟨rfl, O⟩
  generalize zeroE = x at *
  go_wp2_with fail
  replace O := O.trans ((new_below w1 (.cells #[.int .u64 x.a, .int .u64 x.b, .int .u64 x.c, .int .u64 x.d, .int .u64 x.e] 27)).mono O.size)
  refine (alive_any _).mono ?_
  rintro _ w3 ⟨rfl, hb⟩
  replace O := O.trans (hb.mono O.size)
  clear hb
  go_wp2
  go_ret
  exact ⟨rfl, O⟩

set_option maxRecDepth 100000 in
set_option maxHeartbeats 1000000 in
theorem rows_long (s : ByteArray) (l : Option Addr) (len cap : Nat) (w : World) (hs : s.size = 32) (hl : 100 < len) :
    Calls Try.prog 6 #[.string s, .slice l len cap] w fun r w' => r = .returned (.bool true) ∧ Below w.heap.size w w' := by
  have l1 : (100 : Int) < (len : Int) := by omega
  go_enter Try.func6, Try.ntmps6
  go_wp2_with fail
  refine (oft_yes s _ hs).mono ?_
  rintro _ w1 ⟨rfl, O⟩
  generalize ofF s = x at *
  go_wp2_with fail
  replace O := O.trans ((new_below w1 (.cells #[.int .u64 x.a, .int .u64 x.b, .int .u64 x.c, .int .u64 x.d, .int .u64 x.e] 27)).mono O.size)
  refine (alive_any _).mono ?_
  rintro _ w3 ⟨rfl, hb⟩
  replace O := O.trans (hb.mono O.size)
  clear hb
  go_wp2
  go_ret
  exact ⟨rfl, O⟩

set_option maxRecDepth 100000 in
set_option maxHeartbeats 16000000 in
theorem rows_some (s : ByteArray) (l : Option Addr) (b o len cap : Nat) (Ds : Nat → Int) (Ss : Nat → ByteArray) (w : World) (hs : s.size = 32) (hlen : len ≤ 100) (hll : 0 < len → l = some ⟨b, o, none⟩)
    (hb : 0 < len → b < w.heap.size) (hD : ∀ j, j < len → w.cell? ⟨b, o + j * 2, none⟩ = some (.int .i64 (Ds j))) (hS : ∀ j, j < len → w.cell? ⟨b, o + j * 2 + 1, none⟩ = some (.string (Ss j))) :
    Calls Try.prog 6 #[.string s, .slice l len cap] w fun r w' => r = .returned (.bool true) ∧ Below w.heap.size w w' := by
  have l1 : ¬ (100 : Int) < (len : Int) := by omega
  have kx := ofF_ok s
  have nx := ofF_n s
  have HD := hide hD
  have HS := hide hS
  have HL := hide (And.intro hll hb)
  clear hD hS hll hb
  go_enter Try.func6, Try.ntmps6
  go_wp2_with fail
  refine (oft_yes s _ hs).mono ?_
  rintro _ w1 ⟨rfl, O⟩
  generalize ofF s = x at *
  go_wp2_with fail
  have A := EAt.new w1 x 27
  have ow := O.size
  replace O := O.trans ((new_below w1 (.cells #[.int .u64 x.a, .int .u64 x.b, .int .u64 x.c, .int .u64 x.d, .int .u64 x.e] 27)).mono O.size)
  refine (rof_any s _ hs).mono ?_
  rintro _ w3 ⟨rfl, hb3⟩
  replace A := A.keep hb3
  replace O := O.trans (hb3.mono O.size)
  clear hb3
  have RF : Row (w3.alloc (.cells #[Value.int IntKind.u64 0, Value.int IntKind.u64 0, Value.int IntKind.u64 0, Value.int IntKind.u64 0, Value.int IntKind.u64 0, Value.int IntKind.u64 0, Value.int IntKind.u64 0, Value.int IntKind.u64 0, Value.int IntKind.u64 0, Value.int IntKind.u64 0, Value.int IntKind.u64 0, Value.int IntKind.u64 0, Value.int IntKind.u64 0, Value.int IntKind.u64 0, Value.int IntKind.u64 0, Value.int IntKind.u64 0] 35)) w3.heap.size 35 16 (fun _ => 0) := Row.new w3 35 16 (fun _ => 0)
  have og := O.size
  have ag := A.size
  have RR := hide (RF.setAll (d16 (val s % Pm)))
  have BB := below_setCells (g := w3.heap.size) (Nat.le_refl _) (arr 16 (d16 (val s % Pm))).toList 0 (new_below w3 (.cells #[Value.int IntKind.u64 0, Value.int IntKind.u64 0, Value.int IntKind.u64 0, Value.int IntKind.u64 0, Value.int IntKind.u64 0, Value.int IntKind.u64 0, Value.int IntKind.u64 0, Value.int IntKind.u64 0, Value.int IntKind.u64 0, Value.int IntKind.u64 0, Value.int IntKind.u64 0, Value.int IntKind.u64 0, Value.int IntKind.u64 0, Value.int IntKind.u64 0, Value.int IntKind.u64 0, Value.int IntKind.u64 0] 35))
  have A' := hide (A.keep BB)
  have O' := hide (O.trans (BB.mono O.size))
  clear A O BB
  go_upto_region 5 with (refine wpList_store_mid rfl 35 _ _ rfl w3.heap.size 0 (arr 16 (d16 (val s % Pm))) rfl rfl ?there (info35 _) (arr_one _ _) ?_)
  case there => rw [arr_size]; exact RF.there
  have A := A'.out
  have O := O'.out
  have RC := RR.out
  clear A' O' RR RF
  generalize w1.heap.size = ga at *
  generalize w3.heap.size = gc at *
  generalize (w3.alloc (.cells #[Value.int IntKind.u64 0, Value.int IntKind.u64 0, Value.int IntKind.u64 0, Value.int IntKind.u64 0, Value.int IntKind.u64 0, Value.int IntKind.u64 0, Value.int IntKind.u64 0, Value.int IntKind.u64 0, Value.int IntKind.u64 0, Value.int IntKind.u64 0, Value.int IntKind.u64 0, Value.int IntKind.u64 0, Value.int IntKind.u64 0, Value.int IntKind.u64 0, Value.int IntKind.u64 0, Value.int IntKind.u64 0] 35)).setCells gc 0 (arr 16 (d16 (val s % Pm))).toList = W2 at *
  have HI := hide (And.intro kx nx)
  clear kx nx
  go_wp2_with fail
  go_loopw [8] (fun v wr => ∃ i : Nat, i ≤ len ∧ v = .int .i64 i ∧ (∃ (y : E5) (M : Int), y.Ok ∧ Cg y.n M ∧ EAt wr ga y ∧ Row wr gc 35 16 (d16 (M % Pm))) ∧ Below w.heap.size w wr) (fun v _ => len - (intOf v).toNat)
  case atStart => exact ⟨0, by omega, rfl, ⟨x, val s, HI.out.1, HI.out.2, A, RC⟩, O⟩
  case round =>
    clear A RC O HI
    obtain ⟨i, hi, rfl, ⟨y, M, ky, cy, A, RC⟩, O⟩ := hrel
    by_cases hlt : i < len
    · have hlE := HL.out.1 (by omega)
      subst hlE
      have hb := HL.out.2 (by omega)
      have h1 : (i : Int) < (len : Int) := by omega
      have c1 := (O.cell (p := ⟨b, o + i * 2 + 1, none⟩) hb).trans (HS.out i hlt)
      have HY := hide (And.intro ky cy)
      clear ky cy
      go_wp2_with fail
      clear c1
      by_cases h32 : (Ss i).size = 32
      · refine (oft_yes (Ss i) _ h32).mono ?_
        rintro _ w4 ⟨rfl, hb4⟩
        replace A := A.keep hb4
        replace RC := RC.keep hb4
        replace O := O.trans (hb4.mono O.size)
        clear hb4
        have kz := ofF_ok (Ss i)
        have cz := ofF_n (Ss i)
        generalize ofF (Ss i) = z at *
        have HZ := hide (And.intro kz cz)
        clear kz cz
        have sA := A.size
        have sC := RC.lt
        have B := (EAt.new w4 z 27).keep (new_below (w4.alloc (.cells #[.int .u64 z.a, .int .u64 z.b, .int .u64 z.c, .int .u64 z.d, .int .u64 z.e] 27)) (.cells #[Value.int IntKind.u64 0, Value.int IntKind.u64 0, Value.int IntKind.u64 0, Value.int IntKind.u64 0, Value.int IntKind.u64 0, Value.int IntKind.u64 0, Value.int IntKind.u64 0, Value.int IntKind.u64 0, Value.int IntKind.u64 0, Value.int IntKind.u64 0, Value.int IntKind.u64 0, Value.int IntKind.u64 0, Value.int IntKind.u64 0, Value.int IntKind.u64 0, Value.int IntKind.u64 0, Value.int IntKind.u64 0] 35))
        replace A := (A.keep (new_below w4 (.cells #[.int .u64 z.a, .int .u64 z.b, .int .u64 z.c, .int .u64 z.d, .int .u64 z.e] 27))).keep (new_below (w4.alloc (.cells #[.int .u64 z.a, .int .u64 z.b, .int .u64 z.c, .int .u64 z.d, .int .u64 z.e] 27)) (.cells #[Value.int IntKind.u64 0, Value.int IntKind.u64 0, Value.int IntKind.u64 0, Value.int IntKind.u64 0, Value.int IntKind.u64 0, Value.int IntKind.u64 0, Value.int IntKind.u64 0, Value.int IntKind.u64 0, Value.int IntKind.u64 0, Value.int IntKind.u64 0, Value.int IntKind.u64 0, Value.int IntKind.u64 0, Value.int IntKind.u64 0, Value.int IntKind.u64 0, Value.int IntKind.u64 0, Value.int IntKind.u64 0] 35))
        replace RC := (RC.keep (new_below w4 (.cells #[.int .u64 z.a, .int .u64 z.b, .int .u64 z.c, .int .u64 z.d, .int .u64 z.e] 27))).keep (new_below (w4.alloc (.cells #[.int .u64 z.a, .int .u64 z.b, .int .u64 z.c, .int .u64 z.d, .int .u64 z.e] 27)) (.cells #[Value.int IntKind.u64 0, Value.int IntKind.u64 0, Value.int IntKind.u64 0, Value.int IntKind.u64 0, Value.int IntKind.u64 0, Value.int IntKind.u64 0, Value.int IntKind.u64 0, Value.int IntKind.u64 0, Value.int IntKind.u64 0, Value.int IntKind.u64 0, Value.int IntKind.u64 0, Value.int IntKind.u64 0, Value.int IntKind.u64 0, Value.int IntKind.u64 0, Value.int IntKind.u64 0, Value.int IntKind.u64 0] 35))
        have sO := O.size
        replace O := O.trans ((new_below w4 (.cells #[.int .u64 z.a, .int .u64 z.b, .int .u64 z.c, .int .u64 z.d, .int .u64 z.e] 27)).mono O.size)
        replace O := O.trans ((new_below (w4.alloc (.cells #[.int .u64 z.a, .int .u64 z.b, .int .u64 z.c, .int .u64 z.d, .int .u64 z.e] 27)) (.cells #[Value.int IntKind.u64 0, Value.int IntKind.u64 0, Value.int IntKind.u64 0, Value.int IntKind.u64 0, Value.int IntKind.u64 0, Value.int IntKind.u64 0, Value.int IntKind.u64 0, Value.int IntKind.u64 0, Value.int IntKind.u64 0, Value.int IntKind.u64 0, Value.int IntKind.u64 0, Value.int IntKind.u64 0, Value.int IntKind.u64 0, Value.int IntKind.u64 0, Value.int IntKind.u64 0, Value.int IntKind.u64 0] 35)).mono O.size)
        have RD : Row ((w4.alloc (.cells #[.int .u64 z.a, .int .u64 z.b, .int .u64 z.c, .int .u64 z.d, .int .u64 z.e] 27)).alloc (.cells #[Value.int IntKind.u64 0, Value.int IntKind.u64 0, Value.int IntKind.u64 0, Value.int IntKind.u64 0, Value.int IntKind.u64 0, Value.int IntKind.u64 0, Value.int IntKind.u64 0, Value.int IntKind.u64 0, Value.int IntKind.u64 0, Value.int IntKind.u64 0, Value.int IntKind.u64 0, Value.int IntKind.u64 0, Value.int IntKind.u64 0, Value.int IntKind.u64 0, Value.int IntKind.u64 0, Value.int IntKind.u64 0] 35)) (w4.heap.size + 1) 35 16 (fun _ => 0) := Row.new' _ 35 16 (fun _ => 0) (by simp)
        have A' := hide (A.setOther (k := w4.heap.size + 1) (by omega) 0 (arr 16 (fun _ => 0)).toList)
        have B' := hide (B.setOther (k := w4.heap.size + 1) (by omega) 0 (arr 16 (fun _ => 0)).toList)
        have RC' := hide (RC.setOther (k := w4.heap.size + 1) (by omega) 0 (arr 16 (fun _ => 0)).toList)
        have RD' := hide (RD.setAll (fun _ => 0))
        have O' := hide (below_setCells (g := w4.heap.size + 1) (by omega) (arr 16 (fun _ => 0)).toList 0 O)
        clear A B RC O
        go_upto_region 10 with (refine wpList_store_mid rfl 35 _ _ rfl (w4.heap.size + 1) 0 (arr 16 (fun _ => 0)) rfl rfl ?there (info35 _) (arr_one _ _) ?_)
        case there => rw [arr_size]; exact RD.there
        have A := A'.out
        have B := B'.out
        have RC := RC'.out
        have O := O'.out
        replace RD := RD'.out
        clear A' B' RC' RD' O'
        generalize w4.heap.size = gb at *
        generalize ((w4.alloc (.cells #[.int .u64 z.a, .int .u64 z.b, .int .u64 z.c, .int .u64 z.d, .int .u64 z.e] 27)).alloc (.cells #[Value.int IntKind.u64 0, Value.int IntKind.u64 0, Value.int IntKind.u64 0, Value.int IntKind.u64 0, Value.int IntKind.u64 0, Value.int IntKind.u64 0, Value.int IntKind.u64 0, Value.int IntKind.u64 0, Value.int IntKind.u64 0, Value.int IntKind.u64 0, Value.int IntKind.u64 0, Value.int IntKind.u64 0, Value.int IntKind.u64 0, Value.int IntKind.u64 0, Value.int IntKind.u64 0, Value.int IntKind.u64 0] 35)).setCells (gb + 1) 0 (arr 16 (fun _ => 0)).toList = W5 at *
        have c1 := (O.cell (p := ⟨b, o + i * 2 + 1, none⟩) hb).trans (HS.out i hlt)
        have HH := hide (And.intro A (And.intro B (And.intro RC (And.intro RD O))))
        clear A B RC RD O
        go_wp2_with fail
        refine (rof_any (Ss i) _ h32).mono ?_
        rintro _ w6 ⟨rfl, hb6⟩
        obtain ⟨A, B, RC, RD, O⟩ := HH.out
        replace A := A.keep hb6
        replace B := B.keep hb6
        replace RC := RC.keep hb6
        replace RD := RD.keep hb6
        replace O := O.trans (hb6.mono O.size)
        clear hb6 HH c1
        generalize hD : val (Ss i) = D at *
        clear hD
        have A' := hide (A.setOther (k := gb + 1) (by omega) 0 (arr 16 (d16 (D % Pm))).toList)
        have B' := hide (B.setOther (k := gb + 1) (by omega) 0 (arr 16 (d16 (D % Pm))).toList)
        have RC' := hide (RC.setOther (k := gb + 1) (by omega) 0 (arr 16 (d16 (D % Pm))).toList)
        have RD' := hide (RD.setAll (d16 (D % Pm)))
        have O' := hide (below_setCells (g := gb + 1) (by omega) (arr 16 (d16 (D % Pm))).toList 0 O)
        clear A B RC O
        go_upto_region 12 with (refine wpList_store_mid rfl 35 _ _ rfl (gb + 1) 0 (arr 16 (d16 (D % Pm))) rfl rfl ?there (info35 _) (arr_one _ _) ?_)
        case there => rw [arr_size]; exact RD.there
        have A := A'.out
        have B := B'.out
        have RC := RC'.out
        have O := O'.out
        replace RD := RD'.out
        clear A' B' RC' RD' O'
        generalize w6.setCells (gb + 1) 0 (arr 16 (d16 (D % Pm))).toList = W7 at *
        have c0 := (O.cell (p := ⟨b, o + i * 2, none⟩) hb).trans (HD.out i hlt)
        generalize Ds i = N at *
        by_cases e1 : N = 1
        · have n1 : (N == 1) = true := by simp [e1]
          clear e1
          have HH := hide (And.intro A (And.intro B (And.intro RC (And.intro RD O))))
          obtain ⟨az, af, a0, a1, a2, a3, a4⟩ := A
          obtain ⟨bz, bf, b0, b1, b2, b3, b4⟩ := B
          clear RC RD O
          go_wp2_with fail
          refine (sub_any y z _ HY.out.1 HZ.out.1).mono ?_
          rintro _ w8 ⟨rfl, hb8⟩
          clear az af a0 a1 a2 a3 a4 bz bf b0 b1 b2 b3 b4 c0
          obtain ⟨A, B, RC, RD, O⟩ := HH.out
          replace A := A.keep hb8
          replace RC := RC.keep hb8
          replace RD := RD.keep hb8
          replace O := O.trans (hb8.mono O.size)
          clear hb8 HH B
          have HV := hide (And.intro (subF_ok HY.out.1 HZ.out.1) ((subF_n y z).trans ((HY.out.2.trans (cg_emod M).symm).sub (HZ.out.2.trans (cg_emod D).symm))))
          generalize subF y z = v at *
          have RC' := hide (RC.put5 (k := ga) (by omega) v)
          have RD' := hide (RD.put5 (k := ga) (by omega) v)
          have A' := hide (A.put v)
          have O' := hide (five (g := ga) O (by omega) (u0 := .int .u64 v.a) (u1 := .int .u64 v.b) (u2 := .int .u64 v.c) (u3 := .int .u64 v.d) (u4 := .int .u64 v.e))
          clear RC RD O
          obtain ⟨az, af, a0, a1, a2, a3, a4⟩ := A
          go_wp2_with (first | (refine wpList_load_row rfl 35 _ rfl gc rfl 35 (arr 16 (d16 (M % Pm))) (0, 0) _ ?hg1y1 Try.underlying35 rfl (info35 _) ?_) | (refine wpList_load_row rfl 35 _ rfl (gb + 1) rfl 35 (arr 16 (d16 (D % Pm))) (0, 0) _ ?hg2y1 Try.underlying35 rfl (info35 _) ?_))
          case hg1y1 => exact RC'.out
          case hg2y1 => exact RD'.out
          refine (rsub_any (d16 (M % Pm)) (d16 (D % Pm)) _ (d16_dig _ 16) (d16_dig _ 16) (dlt D)).mono ?_
          rintro _ w9 ⟨rfl, hb9⟩
          clear az af a0 a1 a2 a3 a4
          have A := A'.out.keep hb9
          have RC := RC'.out.keep hb9
          have O := O'.out.trans (hb9.mono O'.out.size)
          clear hb9 A' RC' RD' O'
          rw [dS, dS]
          have HV2 : Hid (v.Ok ∧ Cg v.n (M % Pm - D % Pm)) := HV
          clear HV
          generalize M % Pm - D % Pm = M2 at *
          have A' := hide (A.setOther (k := gc) (by omega) 0 (arr 16 (d16 (M2 % Pm))).toList)
          have RC' := hide (RC.setAll (d16 (M2 % Pm)))
          have O' := hide (below_setCells (g := gc) (by omega) (arr 16 (d16 (M2 % Pm))).toList 0 O)
          clear A O
          go_upto_region 27 with (refine wpList_store_mid rfl 35 _ _ rfl gc 0 (arr 16 (d16 (M2 % Pm))) rfl rfl ?therey1 (info35 _) (arr_one _ _) ?_)
          case therey1 => rw [arr_size]; exact RC.there
          have A := A'.out
          replace RC := RC'.out
          have O := O'.out
          clear A' RC' O'
          generalize w9.setCells gc 0 (arr 16 (d16 (M2 % Pm))).toList = W10 at *
          by_cases h7 : i % 8 = 7
          · have m8 : ((i : Int) % 8 == 7) = true := by simp; omega
            have A2 := A
            obtain ⟨az, af, a0, a1, a2, a3, a4⟩ := A2
            have HR := hide RC
            have HO := hide O
            clear RC O
            go_wp2_with (refine wpList_load_row_on ?hwy1 35 _ rfl gc rfl 35 (arr 16 (d16 (M2 % Pm))) (0, 0) _ ?hgy1 Try.underlying35 rfl (info35 _) ?_)
            case hgy1 => exact HR.out
            refine (is_cg v M2 _ HV2.out.1 HV2.out.2).mono ?_
            rintro _ w11 ⟨rfl, hb11⟩
            clear az af a0 a1 a2 a3 a4
            replace A := A.keep hb11
            have RC := HR.out.keep hb11
            have O := HO.out.trans (hb11.mono HO.out.size)
            clear hb11 HR HO
            go_wp2
            go_roundw
            case rel => exact ⟨i + 1, by omega, by go_num, ⟨v, M2, HV2.out.1, HV2.out.2, A, RC⟩, O⟩
            case measure => simp [intOf]; omega
          · have m8 : ((i : Int) % 8 == 7) = false := by simp; omega
            go_wp2
            go_roundw
            case rel => exact ⟨i + 1, by omega, by go_num, ⟨v, M2, HV2.out.1, HV2.out.2, A, RC⟩, O⟩
            case measure => simp [intOf]; omega
        · have n1 : (N == 1) = false := by simp [e1]
          clear e1
          by_cases e2 : N = 2
          · have n2 : (N == 2) = true := by simp [e2]
            clear e2
            have HH := hide (And.intro A (And.intro B (And.intro RC (And.intro RD O))))
            obtain ⟨az, af, a0, a1, a2, a3, a4⟩ := A
            obtain ⟨bz, bf, b0, b1, b2, b3, b4⟩ := B
            clear RC RD O
            go_wp2_with fail
            refine (mul_any y z _ HY.out.1 HZ.out.1).mono ?_
            rintro _ w8 ⟨rfl, hb8⟩
            clear az af a0 a1 a2 a3 a4 bz bf b0 b1 b2 b3 b4 c0
            obtain ⟨A, B, RC, RD, O⟩ := HH.out
            replace A := A.keep hb8
            replace RC := RC.keep hb8
            replace RD := RD.keep hb8
            replace O := O.trans (hb8.mono O.size)
            clear hb8 HH B
            have HV := hide (And.intro (mulF_ok HY.out.1 HZ.out.1) ((mulF_n y z).trans ((HY.out.2.trans (cg_emod M).symm).mul (HZ.out.2.trans (cg_emod D).symm))))
            generalize mulF y z = v at *
            have RC' := hide (RC.put5 (k := ga) (by omega) v)
            have RD' := hide (RD.put5 (k := ga) (by omega) v)
            have A' := hide (A.put v)
            have O' := hide (five (g := ga) O (by omega) (u0 := .int .u64 v.a) (u1 := .int .u64 v.b) (u2 := .int .u64 v.c) (u3 := .int .u64 v.d) (u4 := .int .u64 v.e))
            clear RC RD O
            obtain ⟨az, af, a0, a1, a2, a3, a4⟩ := A
            go_wp2_with (first | (refine wpList_load_row rfl 35 _ rfl gc rfl 35 (arr 16 (d16 (M % Pm))) (0, 0) _ ?hg1y2 Try.underlying35 rfl (info35 _) ?_) | (refine wpList_load_row rfl 35 _ rfl (gb + 1) rfl 35 (arr 16 (d16 (D % Pm))) (0, 0) _ ?hg2y2 Try.underlying35 rfl (info35 _) ?_))
            case hg1y2 => exact RC'.out
            case hg2y2 => exact RD'.out
            refine (rmul_any (d16 (M % Pm)) (d16 (D % Pm)) _ (d16_dig _ 16) (d16_dig _ 16)).mono ?_
            rintro _ w9 ⟨rfl, hb9⟩
            clear az af a0 a1 a2 a3 a4
            have A := A'.out.keep hb9
            have RC := RC'.out.keep hb9
            have O := O'.out.trans (hb9.mono O'.out.size)
            clear hb9 A' RC' RD' O'
            rw [dS, dS]
            have HV2 : Hid (v.Ok ∧ Cg v.n (M % Pm * (D % Pm))) := HV
            clear HV
            generalize M % Pm * (D % Pm) = M2 at *
            have A' := hide (A.setOther (k := gc) (by omega) 0 (arr 16 (d16 (M2 % Pm))).toList)
            have RC' := hide (RC.setAll (d16 (M2 % Pm)))
            have O' := hide (below_setCells (g := gc) (by omega) (arr 16 (d16 (M2 % Pm))).toList 0 O)
            clear A O
            go_upto_region 27 with (refine wpList_store_mid rfl 35 _ _ rfl gc 0 (arr 16 (d16 (M2 % Pm))) rfl rfl ?therey2 (info35 _) (arr_one _ _) ?_)
            case therey2 => rw [arr_size]; exact RC.there
            have A := A'.out
            replace RC := RC'.out
            have O := O'.out
            clear A' RC' O'
            generalize w9.setCells gc 0 (arr 16 (d16 (M2 % Pm))).toList = W10 at *
            by_cases h7 : i % 8 = 7
            · have m8 : ((i : Int) % 8 == 7) = true := by simp; omega
              have A2 := A
              obtain ⟨az, af, a0, a1, a2, a3, a4⟩ := A2
              have HR := hide RC
              have HO := hide O
              clear RC O
              go_wp2_with (refine wpList_load_row_on ?hwy2 35 _ rfl gc rfl 35 (arr 16 (d16 (M2 % Pm))) (0, 0) _ ?hgy2 Try.underlying35 rfl (info35 _) ?_)
              case hgy2 => exact HR.out
              refine (is_cg v M2 _ HV2.out.1 HV2.out.2).mono ?_
              rintro _ w11 ⟨rfl, hb11⟩
              clear az af a0 a1 a2 a3 a4
              replace A := A.keep hb11
              have RC := HR.out.keep hb11
              have O := HO.out.trans (hb11.mono HO.out.size)
              clear hb11 HR HO
              go_wp2
              go_roundw
              case rel => exact ⟨i + 1, by omega, by go_num, ⟨v, M2, HV2.out.1, HV2.out.2, A, RC⟩, O⟩
              case measure => simp [intOf]; omega
            · have m8 : ((i : Int) % 8 == 7) = false := by simp; omega
              go_wp2
              go_roundw
              case rel => exact ⟨i + 1, by omega, by go_num, ⟨v, M2, HV2.out.1, HV2.out.2, A, RC⟩, O⟩
              case measure => simp [intOf]; omega
          · have n2 : (N == 2) = false := by simp [e2]
            clear e2
            by_cases e3 : N = 3
            · have n3 : (N == 3) = true := by simp [e3]
              clear e3
              have HH := hide (And.intro A (And.intro B (And.intro RC (And.intro RD O))))
              obtain ⟨az, af, a0, a1, a2, a3, a4⟩ := A
              obtain ⟨bz, bf, b0, b1, b2, b3, b4⟩ := B
              clear RC RD O
              go_wp2_with fail
              refine (neg_any y _ HY.out.1).mono ?_
              rintro _ w8 ⟨rfl, hb8⟩
              clear az af a0 a1 a2 a3 a4 bz bf b0 b1 b2 b3 b4 c0
              obtain ⟨A, B, RC, RD, O⟩ := HH.out
              replace A := A.keep hb8
              replace RC := RC.keep hb8
              replace RD := RD.keep hb8
              replace O := O.trans (hb8.mono O.size)
              clear hb8 HH B
              have HV := hide (And.intro (negF_ok HY.out.1) ((negF_n y).trans (HY.out.2.trans (cg_emod M).symm).neg))
              generalize negF y = v at *
              have RC' := hide (RC.put5 (k := ga) (by omega) v)
              have RD' := hide (RD.put5 (k := ga) (by omega) v)
              have A' := hide (A.put v)
              have O' := hide (five (g := ga) O (by omega) (u0 := .int .u64 v.a) (u1 := .int .u64 v.b) (u2 := .int .u64 v.c) (u3 := .int .u64 v.d) (u4 := .int .u64 v.e))
              clear RC RD O
              obtain ⟨az, af, a0, a1, a2, a3, a4⟩ := A
              go_wp2_with (first | (refine wpList_load_row rfl 35 _ rfl gc rfl 35 (arr 16 (d16 (M % Pm))) (0, 0) _ ?hg1y3 Try.underlying35 rfl (info35 _) ?_) | (refine wpList_load_row rfl 35 _ rfl (gb + 1) rfl 35 (arr 16 (d16 (D % Pm))) (0, 0) _ ?hg2y3 Try.underlying35 rfl (info35 _) ?_))
              case hg1y3 => exact RC'.out
              refine (rneg_any (d16 (M % Pm)) _ (d16_dig _ 16) (dlt M)).mono ?_
              rintro _ w9 ⟨rfl, hb9⟩
              clear az af a0 a1 a2 a3 a4
              have A := A'.out.keep hb9
              have RC := RC'.out.keep hb9
              have O := O'.out.trans (hb9.mono O'.out.size)
              clear hb9 A' RC' RD' O'
              rw [dS]
              have HV2 : Hid (v.Ok ∧ Cg v.n (-(M % Pm))) := HV
              clear HV
              generalize -(M % Pm) = M2 at *
              have A' := hide (A.setOther (k := gc) (by omega) 0 (arr 16 (d16 (M2 % Pm))).toList)
              have RC' := hide (RC.setAll (d16 (M2 % Pm)))
              have O' := hide (below_setCells (g := gc) (by omega) (arr 16 (d16 (M2 % Pm))).toList 0 O)
              clear A O
              go_upto_region 27 with (refine wpList_store_mid rfl 35 _ _ rfl gc 0 (arr 16 (d16 (M2 % Pm))) rfl rfl ?therey3 (info35 _) (arr_one _ _) ?_)
              case therey3 => rw [arr_size]; exact RC.there
              have A := A'.out
              replace RC := RC'.out
              have O := O'.out
              clear A' RC' O'
              generalize w9.setCells gc 0 (arr 16 (d16 (M2 % Pm))).toList = W10 at *
              by_cases h7 : i % 8 = 7
              · have m8 : ((i : Int) % 8 == 7) = true := by simp; omega
                have A2 := A
                obtain ⟨az, af, a0, a1, a2, a3, a4⟩ := A2
                have HR := hide RC
                have HO := hide O
                clear RC O
                go_wp2_with (refine wpList_load_row_on ?hwy3 35 _ rfl gc rfl 35 (arr 16 (d16 (M2 % Pm))) (0, 0) _ ?hgy3 Try.underlying35 rfl (info35 _) ?_)
                case hgy3 => exact HR.out
                refine (is_cg v M2 _ HV2.out.1 HV2.out.2).mono ?_
                rintro _ w11 ⟨rfl, hb11⟩
                clear az af a0 a1 a2 a3 a4
                replace A := A.keep hb11
                have RC := HR.out.keep hb11
                have O := HO.out.trans (hb11.mono HO.out.size)
                clear hb11 HR HO
                go_wp2
                go_roundw
                case rel => exact ⟨i + 1, by omega, by go_num, ⟨v, M2, HV2.out.1, HV2.out.2, A, RC⟩, O⟩
                case measure => simp [intOf]; omega
              · have m8 : ((i : Int) % 8 == 7) = false := by simp; omega
                go_wp2
                go_roundw
                case rel => exact ⟨i + 1, by omega, by go_num, ⟨v, M2, HV2.out.1, HV2.out.2, A, RC⟩, O⟩
                case measure => simp [intOf]; omega
            · have n3 : (N == 3) = false := by simp [e3]
              clear e3
              by_cases e4 : N = 4
              · have n4 : (N == 4) = true := by simp [e4]
                clear e4
                have HH := hide (And.intro A (And.intro B (And.intro RC (And.intro RD O))))
                obtain ⟨az, af, a0, a1, a2, a3, a4⟩ := A
                obtain ⟨bz, bf, b0, b1, b2, b3, b4⟩ := B
                clear RC RD O
                go_wp2_with fail
                refine (mul_any y y _ HY.out.1 HY.out.1).mono ?_
                rintro _ w8 ⟨rfl, hb8⟩
                clear az af a0 a1 a2 a3 a4 bz bf b0 b1 b2 b3 b4 c0
                obtain ⟨A, B, RC, RD, O⟩ := HH.out
                replace A := A.keep hb8
                replace RC := RC.keep hb8
                replace RD := RD.keep hb8
                replace O := O.trans (hb8.mono O.size)
                clear hb8 HH B
                have HV := hide (And.intro (mulF_ok HY.out.1 HY.out.1) ((mulF_n y y).trans ((HY.out.2.trans (cg_emod M).symm).mul (HY.out.2.trans (cg_emod M).symm))))
                generalize mulF y y = v at *
                have RC' := hide (RC.put5 (k := ga) (by omega) v)
                have RD' := hide (RD.put5 (k := ga) (by omega) v)
                have A' := hide (A.put v)
                have O' := hide (five (g := ga) O (by omega) (u0 := .int .u64 v.a) (u1 := .int .u64 v.b) (u2 := .int .u64 v.c) (u3 := .int .u64 v.d) (u4 := .int .u64 v.e))
                clear RC RD O
                obtain ⟨az, af, a0, a1, a2, a3, a4⟩ := A
                go_wp2_with (first | (refine wpList_load_row rfl 35 _ rfl gc rfl 35 (arr 16 (d16 (M % Pm))) (0, 0) _ ?hg1y4 Try.underlying35 rfl (info35 _) ?_) | (refine wpList_load_row rfl 35 _ rfl (gb + 1) rfl 35 (arr 16 (d16 (D % Pm))) (0, 0) _ ?hg2y4 Try.underlying35 rfl (info35 _) ?_))
                case hg1y4 => exact RC'.out
                refine (rmul_any (d16 (M % Pm)) (d16 (M % Pm)) _ (d16_dig _ 16) (d16_dig _ 16)).mono ?_
                rintro _ w9 ⟨rfl, hb9⟩
                clear az af a0 a1 a2 a3 a4
                have A := A'.out.keep hb9
                have RC := RC'.out.keep hb9
                have O := O'.out.trans (hb9.mono O'.out.size)
                clear hb9 A' RC' RD' O'
                rw [dS]
                have HV2 : Hid (v.Ok ∧ Cg v.n (M % Pm * (M % Pm))) := HV
                clear HV
                generalize M % Pm * (M % Pm) = M2 at *
                have A' := hide (A.setOther (k := gc) (by omega) 0 (arr 16 (d16 (M2 % Pm))).toList)
                have RC' := hide (RC.setAll (d16 (M2 % Pm)))
                have O' := hide (below_setCells (g := gc) (by omega) (arr 16 (d16 (M2 % Pm))).toList 0 O)
                clear A O
                go_upto_region 27 with (refine wpList_store_mid rfl 35 _ _ rfl gc 0 (arr 16 (d16 (M2 % Pm))) rfl rfl ?therey4 (info35 _) (arr_one _ _) ?_)
                case therey4 => rw [arr_size]; exact RC.there
                have A := A'.out
                replace RC := RC'.out
                have O := O'.out
                clear A' RC' O'
                generalize w9.setCells gc 0 (arr 16 (d16 (M2 % Pm))).toList = W10 at *
                by_cases h7 : i % 8 = 7
                · have m8 : ((i : Int) % 8 == 7) = true := by simp; omega
                  have A2 := A
                  obtain ⟨az, af, a0, a1, a2, a3, a4⟩ := A2
                  have HR := hide RC
                  have HO := hide O
                  clear RC O
                  go_wp2_with (refine wpList_load_row_on ?hwy4 35 _ rfl gc rfl 35 (arr 16 (d16 (M2 % Pm))) (0, 0) _ ?hgy4 Try.underlying35 rfl (info35 _) ?_)
                  case hgy4 => exact HR.out
                  refine (is_cg v M2 _ HV2.out.1 HV2.out.2).mono ?_
                  rintro _ w11 ⟨rfl, hb11⟩
                  clear az af a0 a1 a2 a3 a4
                  replace A := A.keep hb11
                  have RC := HR.out.keep hb11
                  have O := HO.out.trans (hb11.mono HO.out.size)
                  clear hb11 HR HO
                  go_wp2
                  go_roundw
                  case rel => exact ⟨i + 1, by omega, by go_num, ⟨v, M2, HV2.out.1, HV2.out.2, A, RC⟩, O⟩
                  case measure => simp [intOf]; omega
                · have m8 : ((i : Int) % 8 == 7) = false := by simp; omega
                  go_wp2
                  go_roundw
                  case rel => exact ⟨i + 1, by omega, by go_num, ⟨v, M2, HV2.out.1, HV2.out.2, A, RC⟩, O⟩
                  case measure => simp [intOf]; omega
              · have n4 : (N == 4) = false := by simp [e4]
                clear e4
                have HH := hide (And.intro A (And.intro B (And.intro RC (And.intro RD O))))
                obtain ⟨az, af, a0, a1, a2, a3, a4⟩ := A
                obtain ⟨bz, bf, b0, b1, b2, b3, b4⟩ := B
                clear RC RD O
                go_wp2_with fail
                refine (add_any y z _ HY.out.1 HZ.out.1).mono ?_
                rintro _ w8 ⟨rfl, hb8⟩
                clear az af a0 a1 a2 a3 a4 bz bf b0 b1 b2 b3 b4 c0
                obtain ⟨A, B, RC, RD, O⟩ := HH.out
                replace A := A.keep hb8
                replace RC := RC.keep hb8
                replace RD := RD.keep hb8
                replace O := O.trans (hb8.mono O.size)
                clear hb8 HH B
                have HV := hide (And.intro (addF_ok HY.out.1 HZ.out.1) ((addF_n y z).trans ((HY.out.2.trans (cg_emod M).symm).add (HZ.out.2.trans (cg_emod D).symm))))
                generalize addF y z = v at *
                have RC' := hide (RC.put5 (k := ga) (by omega) v)
                have RD' := hide (RD.put5 (k := ga) (by omega) v)
                have A' := hide (A.put v)
                have O' := hide (five (g := ga) O (by omega) (u0 := .int .u64 v.a) (u1 := .int .u64 v.b) (u2 := .int .u64 v.c) (u3 := .int .u64 v.d) (u4 := .int .u64 v.e))
                clear RC RD O
                obtain ⟨az, af, a0, a1, a2, a3, a4⟩ := A
                go_wp2_with (first | (refine wpList_load_row rfl 35 _ rfl gc rfl 35 (arr 16 (d16 (M % Pm))) (0, 0) _ ?hg1y0 Try.underlying35 rfl (info35 _) ?_) | (refine wpList_load_row rfl 35 _ rfl (gb + 1) rfl 35 (arr 16 (d16 (D % Pm))) (0, 0) _ ?hg2y0 Try.underlying35 rfl (info35 _) ?_))
                case hg1y0 => exact RC'.out
                case hg2y0 => exact RD'.out
                refine (radd_any (d16 (M % Pm)) (d16 (D % Pm)) _ (d16_dig _ 16) (d16_dig _ 16)).mono ?_
                rintro _ w9 ⟨rfl, hb9⟩
                clear az af a0 a1 a2 a3 a4
                have A := A'.out.keep hb9
                have RC := RC'.out.keep hb9
                have O := O'.out.trans (hb9.mono O'.out.size)
                clear hb9 A' RC' RD' O'
                rw [dS, dS]
                have HV2 : Hid (v.Ok ∧ Cg v.n (M % Pm + D % Pm)) := HV
                clear HV
                generalize M % Pm + D % Pm = M2 at *
                have A' := hide (A.setOther (k := gc) (by omega) 0 (arr 16 (d16 (M2 % Pm))).toList)
                have RC' := hide (RC.setAll (d16 (M2 % Pm)))
                have O' := hide (below_setCells (g := gc) (by omega) (arr 16 (d16 (M2 % Pm))).toList 0 O)
                clear A O
                go_upto_region 27 with (refine wpList_store_mid rfl 35 _ _ rfl gc 0 (arr 16 (d16 (M2 % Pm))) rfl rfl ?therey0 (info35 _) (arr_one _ _) ?_)
                case therey0 => rw [arr_size]; exact RC.there
                have A := A'.out
                replace RC := RC'.out
                have O := O'.out
                clear A' RC' O'
                generalize w9.setCells gc 0 (arr 16 (d16 (M2 % Pm))).toList = W10 at *
                by_cases h7 : i % 8 = 7
                · have m8 : ((i : Int) % 8 == 7) = true := by simp; omega
                  have A2 := A
                  obtain ⟨az, af, a0, a1, a2, a3, a4⟩ := A2
                  have HR := hide RC
                  have HO := hide O
                  clear RC O
                  go_wp2_with (refine wpList_load_row_on ?hwy0 35 _ rfl gc rfl 35 (arr 16 (d16 (M2 % Pm))) (0, 0) _ ?hgy0 Try.underlying35 rfl (info35 _) ?_)
                  case hgy0 => exact HR.out
                  refine (is_cg v M2 _ HV2.out.1 HV2.out.2).mono ?_
                  rintro _ w11 ⟨rfl, hb11⟩
                  clear az af a0 a1 a2 a3 a4
                  replace A := A.keep hb11
                  have RC := HR.out.keep hb11
                  have O := HO.out.trans (hb11.mono HO.out.size)
                  clear hb11 HR HO
                  go_wp2
                  go_roundw
                  case rel => exact ⟨i + 1, by omega, by go_num, ⟨v, M2, HV2.out.1, HV2.out.2, A, RC⟩, O⟩
                  case measure => simp [intOf]; omega
                · have m8 : ((i : Int) % 8 == 7) = false := by simp; omega
                  go_wp2
                  go_roundw
                  case rel => exact ⟨i + 1, by omega, by go_num, ⟨v, M2, HV2.out.1, HV2.out.2, A, RC⟩, O⟩
                  case measure => simp [intOf]; omega
      · refine (oft_no (Ss i) _ h32).mono ?_
        rintro _ w4 ⟨rfl, hb4⟩
        replace A := A.keep hb4
        replace RC := RC.keep hb4
        replace O := O.trans (hb4.mono O.size)
        clear hb4
        have kz := zeroE_ok
        have cz : Cg zeroE.n 0 := Cg.of_eq zeroE_n
        generalize zeroE = z at *
        have HZ := hide (And.intro kz cz)
        clear kz cz
        have sA := A.size
        have sC := RC.lt
        have B := (EAt.new w4 z 27).keep (new_below (w4.alloc (.cells #[.int .u64 z.a, .int .u64 z.b, .int .u64 z.c, .int .u64 z.d, .int .u64 z.e] 27)) (.cells #[Value.int IntKind.u64 0, Value.int IntKind.u64 0, Value.int IntKind.u64 0, Value.int IntKind.u64 0, Value.int IntKind.u64 0, Value.int IntKind.u64 0, Value.int IntKind.u64 0, Value.int IntKind.u64 0, Value.int IntKind.u64 0, Value.int IntKind.u64 0, Value.int IntKind.u64 0, Value.int IntKind.u64 0, Value.int IntKind.u64 0, Value.int IntKind.u64 0, Value.int IntKind.u64 0, Value.int IntKind.u64 0] 35))
        replace A := (A.keep (new_below w4 (.cells #[.int .u64 z.a, .int .u64 z.b, .int .u64 z.c, .int .u64 z.d, .int .u64 z.e] 27))).keep (new_below (w4.alloc (.cells #[.int .u64 z.a, .int .u64 z.b, .int .u64 z.c, .int .u64 z.d, .int .u64 z.e] 27)) (.cells #[Value.int IntKind.u64 0, Value.int IntKind.u64 0, Value.int IntKind.u64 0, Value.int IntKind.u64 0, Value.int IntKind.u64 0, Value.int IntKind.u64 0, Value.int IntKind.u64 0, Value.int IntKind.u64 0, Value.int IntKind.u64 0, Value.int IntKind.u64 0, Value.int IntKind.u64 0, Value.int IntKind.u64 0, Value.int IntKind.u64 0, Value.int IntKind.u64 0, Value.int IntKind.u64 0, Value.int IntKind.u64 0] 35))
        replace RC := (RC.keep (new_below w4 (.cells #[.int .u64 z.a, .int .u64 z.b, .int .u64 z.c, .int .u64 z.d, .int .u64 z.e] 27))).keep (new_below (w4.alloc (.cells #[.int .u64 z.a, .int .u64 z.b, .int .u64 z.c, .int .u64 z.d, .int .u64 z.e] 27)) (.cells #[Value.int IntKind.u64 0, Value.int IntKind.u64 0, Value.int IntKind.u64 0, Value.int IntKind.u64 0, Value.int IntKind.u64 0, Value.int IntKind.u64 0, Value.int IntKind.u64 0, Value.int IntKind.u64 0, Value.int IntKind.u64 0, Value.int IntKind.u64 0, Value.int IntKind.u64 0, Value.int IntKind.u64 0, Value.int IntKind.u64 0, Value.int IntKind.u64 0, Value.int IntKind.u64 0, Value.int IntKind.u64 0] 35))
        have sO := O.size
        replace O := O.trans ((new_below w4 (.cells #[.int .u64 z.a, .int .u64 z.b, .int .u64 z.c, .int .u64 z.d, .int .u64 z.e] 27)).mono O.size)
        replace O := O.trans ((new_below (w4.alloc (.cells #[.int .u64 z.a, .int .u64 z.b, .int .u64 z.c, .int .u64 z.d, .int .u64 z.e] 27)) (.cells #[Value.int IntKind.u64 0, Value.int IntKind.u64 0, Value.int IntKind.u64 0, Value.int IntKind.u64 0, Value.int IntKind.u64 0, Value.int IntKind.u64 0, Value.int IntKind.u64 0, Value.int IntKind.u64 0, Value.int IntKind.u64 0, Value.int IntKind.u64 0, Value.int IntKind.u64 0, Value.int IntKind.u64 0, Value.int IntKind.u64 0, Value.int IntKind.u64 0, Value.int IntKind.u64 0, Value.int IntKind.u64 0] 35)).mono O.size)
        have RD : Row ((w4.alloc (.cells #[.int .u64 z.a, .int .u64 z.b, .int .u64 z.c, .int .u64 z.d, .int .u64 z.e] 27)).alloc (.cells #[Value.int IntKind.u64 0, Value.int IntKind.u64 0, Value.int IntKind.u64 0, Value.int IntKind.u64 0, Value.int IntKind.u64 0, Value.int IntKind.u64 0, Value.int IntKind.u64 0, Value.int IntKind.u64 0, Value.int IntKind.u64 0, Value.int IntKind.u64 0, Value.int IntKind.u64 0, Value.int IntKind.u64 0, Value.int IntKind.u64 0, Value.int IntKind.u64 0, Value.int IntKind.u64 0, Value.int IntKind.u64 0] 35)) (w4.heap.size + 1) 35 16 (fun _ => 0) := Row.new' _ 35 16 (fun _ => 0) (by simp)
        have A' := hide (A.setOther (k := w4.heap.size + 1) (by omega) 0 (arr 16 (fun _ => 0)).toList)
        have B' := hide (B.setOther (k := w4.heap.size + 1) (by omega) 0 (arr 16 (fun _ => 0)).toList)
        have RC' := hide (RC.setOther (k := w4.heap.size + 1) (by omega) 0 (arr 16 (fun _ => 0)).toList)
        have RD' := hide (RD.setAll (fun _ => 0))
        have O' := hide (below_setCells (g := w4.heap.size + 1) (by omega) (arr 16 (fun _ => 0)).toList 0 O)
        clear A B RC O
        go_upto_region 10 with (refine wpList_store_mid rfl 35 _ _ rfl (w4.heap.size + 1) 0 (arr 16 (fun _ => 0)) rfl rfl ?there (info35 _) (arr_one _ _) ?_)
        case there => rw [arr_size]; exact RD.there
        have A := A'.out
        have B := B'.out
        have RC := RC'.out
        have O := O'.out
        replace RD := RD'.out
        clear A' B' RC' RD' O'
        generalize w4.heap.size = gb at *
        generalize ((w4.alloc (.cells #[.int .u64 z.a, .int .u64 z.b, .int .u64 z.c, .int .u64 z.d, .int .u64 z.e] 27)).alloc (.cells #[Value.int IntKind.u64 0, Value.int IntKind.u64 0, Value.int IntKind.u64 0, Value.int IntKind.u64 0, Value.int IntKind.u64 0, Value.int IntKind.u64 0, Value.int IntKind.u64 0, Value.int IntKind.u64 0, Value.int IntKind.u64 0, Value.int IntKind.u64 0, Value.int IntKind.u64 0, Value.int IntKind.u64 0, Value.int IntKind.u64 0, Value.int IntKind.u64 0, Value.int IntKind.u64 0, Value.int IntKind.u64 0] 35)).setCells (gb + 1) 0 (arr 16 (fun _ => 0)).toList = W5 at *
        obtain ⟨D, hD⟩ : ∃ D : Int, D = 0 := ⟨0, rfl⟩
        replace RD := RD.congr (f' := d16 (D % Pm)) (fun i _ => by rw [hD]; simp [d16])
        have HZ2 : Hid (z.Ok ∧ Cg z.n D) := hide ⟨HZ.out.1, by rw [hD]; exact HZ.out.2⟩
        clear HZ hD
        have HZ := HZ2
        clear HZ2
        go_upto_region 12 with fail
        generalize W5 = W7 at *
        have c0 := (O.cell (p := ⟨b, o + i * 2, none⟩) hb).trans (HD.out i hlt)
        generalize Ds i = N at *
        by_cases e1 : N = 1
        · have n1 : (N == 1) = true := by simp [e1]
          clear e1
          have HH := hide (And.intro A (And.intro B (And.intro RC (And.intro RD O))))
          obtain ⟨az, af, a0, a1, a2, a3, a4⟩ := A
          obtain ⟨bz, bf, b0, b1, b2, b3, b4⟩ := B
          clear RC RD O
          go_wp2_with fail
          refine (sub_any y z _ HY.out.1 HZ.out.1).mono ?_
          rintro _ w8 ⟨rfl, hb8⟩
          clear az af a0 a1 a2 a3 a4 bz bf b0 b1 b2 b3 b4 c0
          obtain ⟨A, B, RC, RD, O⟩ := HH.out
          replace A := A.keep hb8
          replace RC := RC.keep hb8
          replace RD := RD.keep hb8
          replace O := O.trans (hb8.mono O.size)
          clear hb8 HH B
          have HV := hide (And.intro (subF_ok HY.out.1 HZ.out.1) ((subF_n y z).trans ((HY.out.2.trans (cg_emod M).symm).sub (HZ.out.2.trans (cg_emod D).symm))))
          generalize subF y z = v at *
          have RC' := hide (RC.put5 (k := ga) (by omega) v)
          have RD' := hide (RD.put5 (k := ga) (by omega) v)
          have A' := hide (A.put v)
          have O' := hide (five (g := ga) O (by omega) (u0 := .int .u64 v.a) (u1 := .int .u64 v.b) (u2 := .int .u64 v.c) (u3 := .int .u64 v.d) (u4 := .int .u64 v.e))
          clear RC RD O
          obtain ⟨az, af, a0, a1, a2, a3, a4⟩ := A
          go_wp2_with (first | (refine wpList_load_row rfl 35 _ rfl gc rfl 35 (arr 16 (d16 (M % Pm))) (0, 0) _ ?hg1n1 Try.underlying35 rfl (info35 _) ?_) | (refine wpList_load_row rfl 35 _ rfl (gb + 1) rfl 35 (arr 16 (d16 (D % Pm))) (0, 0) _ ?hg2n1 Try.underlying35 rfl (info35 _) ?_))
          case hg1n1 => exact RC'.out
          case hg2n1 => exact RD'.out
          refine (rsub_any (d16 (M % Pm)) (d16 (D % Pm)) _ (d16_dig _ 16) (d16_dig _ 16) (dlt D)).mono ?_
          rintro _ w9 ⟨rfl, hb9⟩
          clear az af a0 a1 a2 a3 a4
          have A := A'.out.keep hb9
          have RC := RC'.out.keep hb9
          have O := O'.out.trans (hb9.mono O'.out.size)
          clear hb9 A' RC' RD' O'
          rw [dS, dS]
          have HV2 : Hid (v.Ok ∧ Cg v.n (M % Pm - D % Pm)) := HV
          clear HV
          generalize M % Pm - D % Pm = M2 at *
          have A' := hide (A.setOther (k := gc) (by omega) 0 (arr 16 (d16 (M2 % Pm))).toList)
          have RC' := hide (RC.setAll (d16 (M2 % Pm)))
          have O' := hide (below_setCells (g := gc) (by omega) (arr 16 (d16 (M2 % Pm))).toList 0 O)
          clear A O
          go_upto_region 27 with (refine wpList_store_mid rfl 35 _ _ rfl gc 0 (arr 16 (d16 (M2 % Pm))) rfl rfl ?theren1 (info35 _) (arr_one _ _) ?_)
          case theren1 => rw [arr_size]; exact RC.there
          have A := A'.out
          replace RC := RC'.out
          have O := O'.out
          clear A' RC' O'
          generalize w9.setCells gc 0 (arr 16 (d16 (M2 % Pm))).toList = W10 at *
          by_cases h7 : i % 8 = 7
          · have m8 : ((i : Int) % 8 == 7) = true := by simp; omega
            have A2 := A
            obtain ⟨az, af, a0, a1, a2, a3, a4⟩ := A2
            have HR := hide RC
            have HO := hide O
            clear RC O
            go_wp2_with (refine wpList_load_row_on ?hwn1 35 _ rfl gc rfl 35 (arr 16 (d16 (M2 % Pm))) (0, 0) _ ?hgn1 Try.underlying35 rfl (info35 _) ?_)
            case hgn1 => exact HR.out
            refine (is_cg v M2 _ HV2.out.1 HV2.out.2).mono ?_
            rintro _ w11 ⟨rfl, hb11⟩
            clear az af a0 a1 a2 a3 a4
            replace A := A.keep hb11
            have RC := HR.out.keep hb11
            have O := HO.out.trans (hb11.mono HO.out.size)
            clear hb11 HR HO
            go_wp2
            go_roundw
            case rel => exact ⟨i + 1, by omega, by go_num, ⟨v, M2, HV2.out.1, HV2.out.2, A, RC⟩, O⟩
            case measure => simp [intOf]; omega
          · have m8 : ((i : Int) % 8 == 7) = false := by simp; omega
            go_wp2
            go_roundw
            case rel => exact ⟨i + 1, by omega, by go_num, ⟨v, M2, HV2.out.1, HV2.out.2, A, RC⟩, O⟩
            case measure => simp [intOf]; omega
        · have n1 : (N == 1) = false := by simp [e1]
          clear e1
          by_cases e2 : N = 2
          · have n2 : (N == 2) = true := by simp [e2]
            clear e2
            have HH := hide (And.intro A (And.intro B (And.intro RC (And.intro RD O))))
            obtain ⟨az, af, a0, a1, a2, a3, a4⟩ := A
            obtain ⟨bz, bf, b0, b1, b2, b3, b4⟩ := B
            clear RC RD O
            go_wp2_with fail
            refine (mul_any y z _ HY.out.1 HZ.out.1).mono ?_
            rintro _ w8 ⟨rfl, hb8⟩
            clear az af a0 a1 a2 a3 a4 bz bf b0 b1 b2 b3 b4 c0
            obtain ⟨A, B, RC, RD, O⟩ := HH.out
            replace A := A.keep hb8
            replace RC := RC.keep hb8
            replace RD := RD.keep hb8
            replace O := O.trans (hb8.mono O.size)
            clear hb8 HH B
            have HV := hide (And.intro (mulF_ok HY.out.1 HZ.out.1) ((mulF_n y z).trans ((HY.out.2.trans (cg_emod M).symm).mul (HZ.out.2.trans (cg_emod D).symm))))
            generalize mulF y z = v at *
            have RC' := hide (RC.put5 (k := ga) (by omega) v)
            have RD' := hide (RD.put5 (k := ga) (by omega) v)
            have A' := hide (A.put v)
            have O' := hide (five (g := ga) O (by omega) (u0 := .int .u64 v.a) (u1 := .int .u64 v.b) (u2 := .int .u64 v.c) (u3 := .int .u64 v.d) (u4 := .int .u64 v.e))
            clear RC RD O
            obtain ⟨az, af, a0, a1, a2, a3, a4⟩ := A
            go_wp2_with (first | (refine wpList_load_row rfl 35 _ rfl gc rfl 35 (arr 16 (d16 (M % Pm))) (0, 0) _ ?hg1n2 Try.underlying35 rfl (info35 _) ?_) | (refine wpList_load_row rfl 35 _ rfl (gb + 1) rfl 35 (arr 16 (d16 (D % Pm))) (0, 0) _ ?hg2n2 Try.underlying35 rfl (info35 _) ?_))
            case hg1n2 => exact RC'.out
            case hg2n2 => exact RD'.out
            refine (rmul_any (d16 (M % Pm)) (d16 (D % Pm)) _ (d16_dig _ 16) (d16_dig _ 16)).mono ?_
            rintro _ w9 ⟨rfl, hb9⟩
            clear az af a0 a1 a2 a3 a4
            have A := A'.out.keep hb9
            have RC := RC'.out.keep hb9
            have O := O'.out.trans (hb9.mono O'.out.size)
            clear hb9 A' RC' RD' O'
            rw [dS, dS]
            have HV2 : Hid (v.Ok ∧ Cg v.n (M % Pm * (D % Pm))) := HV
            clear HV
            generalize M % Pm * (D % Pm) = M2 at *
            have A' := hide (A.setOther (k := gc) (by omega) 0 (arr 16 (d16 (M2 % Pm))).toList)
            have RC' := hide (RC.setAll (d16 (M2 % Pm)))
            have O' := hide (below_setCells (g := gc) (by omega) (arr 16 (d16 (M2 % Pm))).toList 0 O)
            clear A O
            go_upto_region 27 with (refine wpList_store_mid rfl 35 _ _ rfl gc 0 (arr 16 (d16 (M2 % Pm))) rfl rfl ?theren2 (info35 _) (arr_one _ _) ?_)
            case theren2 => rw [arr_size]; exact RC.there
            have A := A'.out
            replace RC := RC'.out
            have O := O'.out
            clear A' RC' O'
            generalize w9.setCells gc 0 (arr 16 (d16 (M2 % Pm))).toList = W10 at *
            by_cases h7 : i % 8 = 7
            · have m8 : ((i : Int) % 8 == 7) = true := by simp; omega
              have A2 := A
              obtain ⟨az, af, a0, a1, a2, a3, a4⟩ := A2
              have HR := hide RC
              have HO := hide O
              clear RC O
              go_wp2_with (refine wpList_load_row_on ?hwn2 35 _ rfl gc rfl 35 (arr 16 (d16 (M2 % Pm))) (0, 0) _ ?hgn2 Try.underlying35 rfl (info35 _) ?_)
              case hgn2 => exact HR.out
              refine (is_cg v M2 _ HV2.out.1 HV2.out.2).mono ?_
              rintro _ w11 ⟨rfl, hb11⟩
              clear az af a0 a1 a2 a3 a4
              replace A := A.keep hb11
              have RC := HR.out.keep hb11
              have O := HO.out.trans (hb11.mono HO.out.size)
              clear hb11 HR HO
              go_wp2
              go_roundw
              case rel => exact ⟨i + 1, by omega, by go_num, ⟨v, M2, HV2.out.1, HV2.out.2, A, RC⟩, O⟩
              case measure => simp [intOf]; omega
            · have m8 : ((i : Int) % 8 == 7) = false := by simp; omega
              go_wp2
              go_roundw
              case rel => exact ⟨i + 1, by omega, by go_num, ⟨v, M2, HV2.out.1, HV2.out.2, A, RC⟩, O⟩
              case measure => simp [intOf]; omega
          · have n2 : (N == 2) = false := by simp [e2]
            clear e2
            by_cases e3 : N = 3
            · have n3 : (N == 3) = true := by simp [e3]
              clear e3
              have HH := hide (And.intro A (And.intro B (And.intro RC (And.intro RD O))))
              obtain ⟨az, af, a0, a1, a2, a3, a4⟩ := A
              obtain ⟨bz, bf, b0, b1, b2, b3, b4⟩ := B
              clear RC RD O
              go_wp2_with fail
              refine (neg_any y _ HY.out.1).mono ?_
              rintro _ w8 ⟨rfl, hb8⟩
              clear az af a0 a1 a2 a3 a4 bz bf b0 b1 b2 b3 b4 c0
              obtain ⟨A, B, RC, RD, O⟩ := HH.out
              replace A := A.keep hb8
              replace RC := RC.keep hb8
              replace RD := RD.keep hb8
              replace O := O.trans (hb8.mono O.size)
              clear hb8 HH B
              have HV := hide (And.intro (negF_ok HY.out.1) ((negF_n y).trans (HY.out.2.trans (cg_emod M).symm).neg))
              generalize negF y = v at *
              have RC' := hide (RC.put5 (k := ga) (by omega) v)
              have RD' := hide (RD.put5 (k := ga) (by omega) v)
              have A' := hide (A.put v)
              have O' := hide (five (g := ga) O (by omega) (u0 := .int .u64 v.a) (u1 := .int .u64 v.b) (u2 := .int .u64 v.c) (u3 := .int .u64 v.d) (u4 := .int .u64 v.e))
              clear RC RD O
              obtain ⟨az, af, a0, a1, a2, a3, a4⟩ := A
              go_wp2_with (first | (refine wpList_load_row rfl 35 _ rfl gc rfl 35 (arr 16 (d16 (M % Pm))) (0, 0) _ ?hg1n3 Try.underlying35 rfl (info35 _) ?_) | (refine wpList_load_row rfl 35 _ rfl (gb + 1) rfl 35 (arr 16 (d16 (D % Pm))) (0, 0) _ ?hg2n3 Try.underlying35 rfl (info35 _) ?_))
              case hg1n3 => exact RC'.out
              refine (rneg_any (d16 (M % Pm)) _ (d16_dig _ 16) (dlt M)).mono ?_
              rintro _ w9 ⟨rfl, hb9⟩
              clear az af a0 a1 a2 a3 a4
              have A := A'.out.keep hb9
              have RC := RC'.out.keep hb9
              have O := O'.out.trans (hb9.mono O'.out.size)
              clear hb9 A' RC' RD' O'
              rw [dS]
              have HV2 : Hid (v.Ok ∧ Cg v.n (-(M % Pm))) := HV
              clear HV
              generalize -(M % Pm) = M2 at *
              have A' := hide (A.setOther (k := gc) (by omega) 0 (arr 16 (d16 (M2 % Pm))).toList)
              have RC' := hide (RC.setAll (d16 (M2 % Pm)))
              have O' := hide (below_setCells (g := gc) (by omega) (arr 16 (d16 (M2 % Pm))).toList 0 O)
              clear A O
              go_upto_region 27 with (refine wpList_store_mid rfl 35 _ _ rfl gc 0 (arr 16 (d16 (M2 % Pm))) rfl rfl ?theren3 (info35 _) (arr_one _ _) ?_)
              case theren3 => rw [arr_size]; exact RC.there
              have A := A'.out
              replace RC := RC'.out
              have O := O'.out
              clear A' RC' O'
              generalize w9.setCells gc 0 (arr 16 (d16 (M2 % Pm))).toList = W10 at *
              by_cases h7 : i % 8 = 7
              · have m8 : ((i : Int) % 8 == 7) = true := by simp; omega
                have A2 := A
                obtain ⟨az, af, a0, a1, a2, a3, a4⟩ := A2
                have HR := hide RC
                have HO := hide O
                clear RC O
                go_wp2_with (refine wpList_load_row_on ?hwn3 35 _ rfl gc rfl 35 (arr 16 (d16 (M2 % Pm))) (0, 0) _ ?hgn3 Try.underlying35 rfl (info35 _) ?_)
                case hgn3 => exact HR.out
                refine (is_cg v M2 _ HV2.out.1 HV2.out.2).mono ?_
                rintro _ w11 ⟨rfl, hb11⟩
                clear az af a0 a1 a2 a3 a4
                replace A := A.keep hb11
                have RC := HR.out.keep hb11
                have O := HO.out.trans (hb11.mono HO.out.size)
                clear hb11 HR HO
                go_wp2
                go_roundw
                case rel => exact ⟨i + 1, by omega, by go_num, ⟨v, M2, HV2.out.1, HV2.out.2, A, RC⟩, O⟩
                case measure => simp [intOf]; omega
              · have m8 : ((i : Int) % 8 == 7) = false := by simp; omega
                go_wp2
                go_roundw
                case rel => exact ⟨i + 1, by omega, by go_num, ⟨v, M2, HV2.out.1, HV2.out.2, A, RC⟩, O⟩
                case measure => simp [intOf]; omega
            · have n3 : (N == 3) = false := by simp [e3]
              clear e3
              by_cases e4 : N = 4
              · have n4 : (N == 4) = true := by simp [e4]
                clear e4
                have HH := hide (And.intro A (And.intro B (And.intro RC (And.intro RD O))))
                obtain ⟨az, af, a0, a1, a2, a3, a4⟩ := A
                obtain ⟨bz, bf, b0, b1, b2, b3, b4⟩ := B
                clear RC RD O
                go_wp2_with fail
                refine (mul_any y y _ HY.out.1 HY.out.1).mono ?_
                rintro _ w8 ⟨rfl, hb8⟩
                clear az af a0 a1 a2 a3 a4 bz bf b0 b1 b2 b3 b4 c0
                obtain ⟨A, B, RC, RD, O⟩ := HH.out
                replace A := A.keep hb8
                replace RC := RC.keep hb8
                replace RD := RD.keep hb8
                replace O := O.trans (hb8.mono O.size)
                clear hb8 HH B
                have HV := hide (And.intro (mulF_ok HY.out.1 HY.out.1) ((mulF_n y y).trans ((HY.out.2.trans (cg_emod M).symm).mul (HY.out.2.trans (cg_emod M).symm))))
                generalize mulF y y = v at *
                have RC' := hide (RC.put5 (k := ga) (by omega) v)
                have RD' := hide (RD.put5 (k := ga) (by omega) v)
                have A' := hide (A.put v)
                have O' := hide (five (g := ga) O (by omega) (u0 := .int .u64 v.a) (u1 := .int .u64 v.b) (u2 := .int .u64 v.c) (u3 := .int .u64 v.d) (u4 := .int .u64 v.e))
                clear RC RD O
                obtain ⟨az, af, a0, a1, a2, a3, a4⟩ := A
                go_wp2_with (first | (refine wpList_load_row rfl 35 _ rfl gc rfl 35 (arr 16 (d16 (M % Pm))) (0, 0) _ ?hg1n4 Try.underlying35 rfl (info35 _) ?_) | (refine wpList_load_row rfl 35 _ rfl (gb + 1) rfl 35 (arr 16 (d16 (D % Pm))) (0, 0) _ ?hg2n4 Try.underlying35 rfl (info35 _) ?_))
                case hg1n4 => exact RC'.out
                refine (rmul_any (d16 (M % Pm)) (d16 (M % Pm)) _ (d16_dig _ 16) (d16_dig _ 16)).mono ?_
                rintro _ w9 ⟨rfl, hb9⟩
                clear az af a0 a1 a2 a3 a4
                have A := A'.out.keep hb9
                have RC := RC'.out.keep hb9
                have O := O'.out.trans (hb9.mono O'.out.size)
                clear hb9 A' RC' RD' O'
                rw [dS]
                have HV2 : Hid (v.Ok ∧ Cg v.n (M % Pm * (M % Pm))) := HV
                clear HV
                generalize M % Pm * (M % Pm) = M2 at *
                have A' := hide (A.setOther (k := gc) (by omega) 0 (arr 16 (d16 (M2 % Pm))).toList)
                have RC' := hide (RC.setAll (d16 (M2 % Pm)))
                have O' := hide (below_setCells (g := gc) (by omega) (arr 16 (d16 (M2 % Pm))).toList 0 O)
                clear A O
                go_upto_region 27 with (refine wpList_store_mid rfl 35 _ _ rfl gc 0 (arr 16 (d16 (M2 % Pm))) rfl rfl ?theren4 (info35 _) (arr_one _ _) ?_)
                case theren4 => rw [arr_size]; exact RC.there
                have A := A'.out
                replace RC := RC'.out
                have O := O'.out
                clear A' RC' O'
                generalize w9.setCells gc 0 (arr 16 (d16 (M2 % Pm))).toList = W10 at *
                by_cases h7 : i % 8 = 7
                · have m8 : ((i : Int) % 8 == 7) = true := by simp; omega
                  have A2 := A
                  obtain ⟨az, af, a0, a1, a2, a3, a4⟩ := A2
                  have HR := hide RC
                  have HO := hide O
                  clear RC O
                  go_wp2_with (refine wpList_load_row_on ?hwn4 35 _ rfl gc rfl 35 (arr 16 (d16 (M2 % Pm))) (0, 0) _ ?hgn4 Try.underlying35 rfl (info35 _) ?_)
                  case hgn4 => exact HR.out
                  refine (is_cg v M2 _ HV2.out.1 HV2.out.2).mono ?_
                  rintro _ w11 ⟨rfl, hb11⟩
                  clear az af a0 a1 a2 a3 a4
                  replace A := A.keep hb11
                  have RC := HR.out.keep hb11
                  have O := HO.out.trans (hb11.mono HO.out.size)
                  clear hb11 HR HO
                  go_wp2
                  go_roundw
                  case rel => exact ⟨i + 1, by omega, by go_num, ⟨v, M2, HV2.out.1, HV2.out.2, A, RC⟩, O⟩
                  case measure => simp [intOf]; omega
                · have m8 : ((i : Int) % 8 == 7) = false := by simp; omega
                  go_wp2
                  go_roundw
                  case rel => exact ⟨i + 1, by omega, by go_num, ⟨v, M2, HV2.out.1, HV2.out.2, A, RC⟩, O⟩
                  case measure => simp [intOf]; omega
              · have n4 : (N == 4) = false := by simp [e4]
                clear e4
                have HH := hide (And.intro A (And.intro B (And.intro RC (And.intro RD O))))
                obtain ⟨az, af, a0, a1, a2, a3, a4⟩ := A
                obtain ⟨bz, bf, b0, b1, b2, b3, b4⟩ := B
                clear RC RD O
                go_wp2_with fail
                refine (add_any y z _ HY.out.1 HZ.out.1).mono ?_
                rintro _ w8 ⟨rfl, hb8⟩
                clear az af a0 a1 a2 a3 a4 bz bf b0 b1 b2 b3 b4 c0
                obtain ⟨A, B, RC, RD, O⟩ := HH.out
                replace A := A.keep hb8
                replace RC := RC.keep hb8
                replace RD := RD.keep hb8
                replace O := O.trans (hb8.mono O.size)
                clear hb8 HH B
                have HV := hide (And.intro (addF_ok HY.out.1 HZ.out.1) ((addF_n y z).trans ((HY.out.2.trans (cg_emod M).symm).add (HZ.out.2.trans (cg_emod D).symm))))
                generalize addF y z = v at *
                have RC' := hide (RC.put5 (k := ga) (by omega) v)
                have RD' := hide (RD.put5 (k := ga) (by omega) v)
                have A' := hide (A.put v)
                have O' := hide (five (g := ga) O (by omega) (u0 := .int .u64 v.a) (u1 := .int .u64 v.b) (u2 := .int .u64 v.c) (u3 := .int .u64 v.d) (u4 := .int .u64 v.e))
                clear RC RD O
                obtain ⟨az, af, a0, a1, a2, a3, a4⟩ := A
                go_wp2_with (first | (refine wpList_load_row rfl 35 _ rfl gc rfl 35 (arr 16 (d16 (M % Pm))) (0, 0) _ ?hg1n0 Try.underlying35 rfl (info35 _) ?_) | (refine wpList_load_row rfl 35 _ rfl (gb + 1) rfl 35 (arr 16 (d16 (D % Pm))) (0, 0) _ ?hg2n0 Try.underlying35 rfl (info35 _) ?_))
                case hg1n0 => exact RC'.out
                case hg2n0 => exact RD'.out
                refine (radd_any (d16 (M % Pm)) (d16 (D % Pm)) _ (d16_dig _ 16) (d16_dig _ 16)).mono ?_
                rintro _ w9 ⟨rfl, hb9⟩
                clear az af a0 a1 a2 a3 a4
                have A := A'.out.keep hb9
                have RC := RC'.out.keep hb9
                have O := O'.out.trans (hb9.mono O'.out.size)
                clear hb9 A' RC' RD' O'
                rw [dS, dS]
                have HV2 : Hid (v.Ok ∧ Cg v.n (M % Pm + D % Pm)) := HV
                clear HV
                generalize M % Pm + D % Pm = M2 at *
                have A' := hide (A.setOther (k := gc) (by omega) 0 (arr 16 (d16 (M2 % Pm))).toList)
                have RC' := hide (RC.setAll (d16 (M2 % Pm)))
                have O' := hide (below_setCells (g := gc) (by omega) (arr 16 (d16 (M2 % Pm))).toList 0 O)
                clear A O
                go_upto_region 27 with (refine wpList_store_mid rfl 35 _ _ rfl gc 0 (arr 16 (d16 (M2 % Pm))) rfl rfl ?theren0 (info35 _) (arr_one _ _) ?_)
                case theren0 => rw [arr_size]; exact RC.there
                have A := A'.out
                replace RC := RC'.out
                have O := O'.out
                clear A' RC' O'
                generalize w9.setCells gc 0 (arr 16 (d16 (M2 % Pm))).toList = W10 at *
                by_cases h7 : i % 8 = 7
                · have m8 : ((i : Int) % 8 == 7) = true := by simp; omega
                  have A2 := A
                  obtain ⟨az, af, a0, a1, a2, a3, a4⟩ := A2
                  have HR := hide RC
                  have HO := hide O
                  clear RC O
                  go_wp2_with (refine wpList_load_row_on ?hwn0 35 _ rfl gc rfl 35 (arr 16 (d16 (M2 % Pm))) (0, 0) _ ?hgn0 Try.underlying35 rfl (info35 _) ?_)
                  case hgn0 => exact HR.out
                  refine (is_cg v M2 _ HV2.out.1 HV2.out.2).mono ?_
                  rintro _ w11 ⟨rfl, hb11⟩
                  clear az af a0 a1 a2 a3 a4
                  replace A := A.keep hb11
                  have RC := HR.out.keep hb11
                  have O := HO.out.trans (hb11.mono HO.out.size)
                  clear hb11 HR HO
                  go_wp2
                  go_roundw
                  case rel => exact ⟨i + 1, by omega, by go_num, ⟨v, M2, HV2.out.1, HV2.out.2, A, RC⟩, O⟩
                  case measure => simp [intOf]; omega
                · have m8 : ((i : Int) % 8 == 7) = false := by simp; omega
                  go_wp2
                  go_roundw
                  case rel => exact ⟨i + 1, by omega, by go_num, ⟨v, M2, HV2.out.1, HV2.out.2, A, RC⟩, O⟩
                  case measure => simp [intOf]; omega
    · have hi' : i = len := by omega
      subst hi'
      have h1 : ¬ (i : Int) < (i : Int) := by omega
      have A2 := A
      obtain ⟨az, af, a0, a1, a2, a3, a4⟩ := A2
      have HR := hide RC
      have HO := hide O
      clear RC O
      go_wp2_with (refine wpList_load_row rfl 35 _ rfl gc rfl 35 (arr 16 (d16 (M % Pm))) (0, 0) _ HR.out Try.underlying35 rfl (info35 _) ?_)
      refine (is_cg y M _ ky cy).mono ?_
      rintro _ w11 ⟨rfl, hb11⟩
      clear az af a0 a1 a2 a3 a4
      have O := HO.out.trans (hb11.mono HO.out.size)
      clear hb11 HR HO A
      go_wp2_with fail
      refine (alive_any _).mono ?_
      rintro _ w12 ⟨rfl, hb12⟩
      replace O := O.trans (hb12.mono O.size)
      clear hb12
      go_wp2
      go_ret
      exact ⟨rfl, O⟩

end Go.Proofs.Ytamokcoobfmogaa
