/- The contract of the document's Root, told by what its callees hand back. -/
import Derived.Test.YtamokcoobfmogaaRinv
import Derived.Test.YtamokcoobfmogaaRneg
namespace Go.Proofs.Ytamokcoobfmogaa
open Go.RowKit

/-- What Root's callees hand back. -/
structure RC (a u I v q0 q1 nu nv : Nat → Int) : Prop where
  p0 : ∀ w b, Brow w b 252 (xbit 252 2) → Calls Try.prog 48 #[.agg (arr 16 a), .slice (some ⟨b, 0, none⟩) 252 252] w fun r w' => r = .returned (.agg (arr 16 u)) ∧ Below w.heap.size w w'
  p1 : ∀ w b, Brow w b 253 (xbit 253 5) → Calls Try.prog 48 #[.agg (arr 16 (d16 2)), .slice (some ⟨b, 0, none⟩) 253 253] w fun r w' => r = .returned (.agg (arr 16 I)) ∧ Below w.heap.size w w'
  m0 : ∀ w, Calls Try.prog 24 #[.agg (arr 16 u), .agg (arr 16 u)] w fun r w' => r = .returned (.agg (arr 16 q0)) ∧ Below w.heap.size w w'
  m1 : ∀ w, Calls Try.prog 24 #[.agg (arr 16 u), .agg (arr 16 I)] w fun r w' => r = .returned (.agg (arr 16 v)) ∧ Below w.heap.size w w'
  m2 : ∀ w, Calls Try.prog 24 #[.agg (arr 16 v), .agg (arr 16 v)] w fun r w' => r = .returned (.agg (arr 16 q1)) ∧ Below w.heap.size w w'
  n0 : ∀ w, Calls Try.prog 26 #[.agg (arr 16 u)] w fun r w' => r = .returned (.agg (arr 16 nu)) ∧ Below w.heap.size w w'
  n1 : ∀ w, Calls Try.prog 26 #[.agg (arr 16 v)] w fun r w' => r = .returned (.agg (arr 16 nv)) ∧ Below w.heap.size w w'

def par (u : Nat → Int) : Bool := bits BinOp.and IntKind.u64 (u 0) 1 == 1
def rrG (a u v q0 q1 nu nv : Nat → Int) : (Nat → Int) × Bool :=
  if eqw q0 a 0 16 = true then (if par u = true then nu else u, true) else if eqw q1 a 0 16 = true then (if par v = true then nv else v, true) else (fun _ => 0, false)

set_option maxRecDepth 100000 in
set_option maxHeartbeats 4000000 in
theorem rroot_gen (a u I v q0 q1 nu nv : Nat → Int) (w : World) (H : RC a u I v q0 q1 nu nv) :
    Calls Try.prog 28 #[.agg (arr 16 a)] w fun r w' => r = .returned (.tuple #[.agg (arr 16 (rrG a u v q0 q1 nu nv).1), .bool (rrG a u v q0 q1 nu nv).2]) ∧ Below w.heap.size w w' := by
  go_enter Try.func28, Try.ntmps28
  go_wp2_with fail
  rw [show #[Value.int IntKind.u64 0, Value.int IntKind.u64 0, Value.int IntKind.u64 0, Value.int IntKind.u64 0, Value.int IntKind.u64 0, Value.int IntKind.u64 0, Value.int IntKind.u64 0, Value.int IntKind.u64 0, Value.int IntKind.u64 0, Value.int IntKind.u64 0, Value.int IntKind.u64 0, Value.int IntKind.u64 0, Value.int IntKind.u64 0, Value.int IntKind.u64 0, Value.int IntKind.u64 0, Value.int IntKind.u64 0] = arr 16 (fun _ => 0) from rfl]
  have R1 : Row ((w.alloc (.cells (arr 16 a) 35)).alloc (.cells (arr 16 fun _ => 0) 35)) w.heap.size 35 16 a := (Row.new w 35 16 a).alloc _
  have R2 : Row ((w.alloc (.cells (arr 16 a) 35)).alloc (.cells (arr 16 fun _ => 0) 35)) (w.heap.size + 1) 35 16 (fun _ => 0) := Row.new' _ 35 16 _ (by simp)
  have O : Below w.heap.size w ((w.alloc (.cells (arr 16 a) 35)).alloc (.cells (arr 16 fun _ => 0) 35)) := ((Below.refl _ _).alloc (Nat.le_refl _) _).alloc (by simp) _
  generalize ((w.alloc (.cells (arr 16 a) 35)).alloc (.cells (arr 16 fun _ => 0) 35)) = W at R1 R2 O ⊢
  refine region_cut (fun a0 a' w' => ∃ gc b : Nat, a' = (((a0.put (some 5) (.agg (arr 16 a))).put (some 6) (.slice (some ⟨b, 0, none⟩) 252 252)).put (some 7) (.agg (arr 16 u))).put (some 4) (.pointer (some ⟨gc, 0, none⟩)) ∧ Row w' gc 35 16 u ∧ Row w' w.heap.size 35 16 a ∧ Row w' (w.heap.size + 1) 35 16 (fun _ => 0) ∧ w.heap.size + 1 < gc ∧ Below w.heap.size w w') (by kernel_rfl) ?_ ?_
  · clear R1 R2 O
    rintro _ w1 ⟨gc, b0, rfl, RC, R1, R2, bgt, O⟩
    cases e0 : eqw q0 a 0 16
    · skip
      go_simp
      go_wp2_with fail
      have hne := KW.some w1
      have h1 : ∀ w', (∃ s : KW w1, w' = s.w) → w'.heap[w.heap.size]? = some (.cells (arr 16 a) 35 (0, 0)) := by
        rintro _ ⟨s, rfl⟩
        exact R1.keep s.keep
      have h2 : ∀ w', (∃ s : KW w1, w' = s.w) → w'.heap[gc]? = some (.cells (arr 16 u) 35 (0, 0)) := by
        rintro _ ⟨s, rfl⟩
        exact RC.keep s.keep
      have HA := hide h1
      have HC := hide h2
      have K := hide (And.intro R1 (And.intro R2 (And.intro RC O)))
      clear h1 h2 R1 R2 RC O
      refine wp_region_keep (by kernel_rfl) (by kernel_rfl) ?_
      go_big_quiet_want
      refine quiet_load_row 35 _ rfl gc rfl 35 (arr 16 u) (0, 0) _ HC.out Try.underlying35 rfl (info35 _) ?_
      go_simp
      go_big_quiet_on
      go_big_quiet_want
      refine quiet_load_row 35 _ rfl gc rfl 35 (arr 16 u) (0, 0) _ HC.out Try.underlying35 rfl (info35 _) ?_
      go_simp
      go_big_quiet_on
      go_big_quiet_step ((exact keep_of (H.m0 _)))
      go_big_quiet_want
      refine quiet_load_row 35 _ rfl w.heap.size rfl 35 (arr 16 a) (0, 0) _ HA.out Try.underlying35 rfl (info35 _) ?_
      go_simp
      go_big_quiet_on
      go_big_quiet_want
      refine quiet_neq q0 a _ _ _ rfl rfl rfl ?_
      rw [e0]
      go_simp
      go_big_quiet_on
      refine wpQuiet_nil ?_
      intro s
      obtain ⟨R1, R2, RC, O⟩ := K.out
      replace R1 := R1.keep s.keep
      replace R2 := R2.keep s.keep
      replace RC := RC.keep s.keep
      replace O := O.trans (s.keep.mono O.size)
      clear HA HC hne K
      generalize s.w = w2 at *
      go_wp2_with fail
      refine region_cut (fun a0 a' w' => ∃ b : Nat, a' = ((((a0.put (some 13) (.agg (arr 16 u))).put (some 14) (.agg (arr 16 (d16 2)))).put (some 15) (.slice (some ⟨b, 0, none⟩) 253 253)).put (some 16) (.agg (arr 16 I))).put (some 17) (.agg (arr 16 v)) ∧ Row w' gc 35 16 v ∧ Row w' w.heap.size 35 16 a ∧ Row w' (w.heap.size + 1) 35 16 (fun _ => 0) ∧ Below w.heap.size w w') (by kernel_rfl) ?_ ?_
      · clear R1 R2 RC O
        rintro _ w3 ⟨b, rfl, RC, R1, R2, O⟩
        go_simp
        go_wp2_with fail
        cases e1 : eqw q1 a 0 16
        · skip
          have hne := KW.some w3
          have h1 : ∀ w', (∃ s : KW w3, w' = s.w) → w'.heap[w.heap.size]? = some (.cells (arr 16 a) 35 (0, 0)) := by
            rintro _ ⟨s, rfl⟩
            exact R1.keep s.keep
          have h2 : ∀ w', (∃ s : KW w3, w' = s.w) → w'.heap[gc]? = some (.cells (arr 16 v) 35 (0, 0)) := by
            rintro _ ⟨s, rfl⟩
            exact RC.keep s.keep
          have HA := hide h1
          have HC := hide h2
          have K := hide (And.intro R1 (And.intro R2 (And.intro RC O)))
          clear h1 h2 R1 R2 RC O
          refine wp_region_keep (by kernel_rfl) (by kernel_rfl) ?_
          go_big_quiet_want
          refine quiet_load_row 35 _ rfl gc rfl 35 (arr 16 v) (0, 0) _ HC.out Try.underlying35 rfl (info35 _) ?_
          go_simp
          go_big_quiet_on
          go_big_quiet_want
          refine quiet_load_row 35 _ rfl gc rfl 35 (arr 16 v) (0, 0) _ HC.out Try.underlying35 rfl (info35 _) ?_
          go_simp
          go_big_quiet_on
          go_big_quiet_step ((exact keep_of (H.m2 _)))
          go_big_quiet_want
          refine quiet_load_row 35 _ rfl w.heap.size rfl 35 (arr 16 a) (0, 0) _ HA.out Try.underlying35 rfl (info35 _) ?_
          go_simp
          go_big_quiet_on
          go_big_quiet_want
          refine quiet_neq q1 a _ _ _ rfl rfl rfl ?_
          rw [e1]
          go_simp
          go_big_quiet_on
          refine wpQuiet_nil ?_
          intro s
          obtain ⟨R1, R2, RC, O⟩ := K.out
          replace R1 := R1.keep s.keep
          replace R2 := R2.keep s.keep
          replace RC := RC.keep s.keep
          replace O := O.trans (s.keep.mono O.size)
          clear HA HC hne K
          generalize s.w = w4 at *
          have RR := hide (R2.setAll (fun _ => 0))
          have OO := hide (below_setCells (g := w.heap.size + 1) (by omega) (arr 16 (fun _ => 0)).toList 0 O)
          clear RC O R1
          go_wp2_with (refine wpList_store_mid rfl 35 _ _ rfl (w.heap.size + 1) 0 (arr 16 (fun _ => 0)) rfl rfl ?there (info35 _) (arr_one _ _) ?_)
          case there => rw [arr_size]; exact R2.there
          exact bodyPost_ret (v := .tuple #[.agg (arr 16 fun _ => 0), .bool false]) (results_cell_tmp Try.results28 _ _ (w.heap.size + 1) 35 (arr 16 (fun _ => 0)) (0, 0) _ (.bool false) rfl rfl RR.out Try.underlying35 rfl (info35 _)) rfl ⟨by simp [rrG, e0, e1], OO.out⟩
        · skip
          have hne := KW.some w3
          have h1 : ∀ w', (∃ s : KW w3, w' = s.w) → w'.heap[w.heap.size]? = some (.cells (arr 16 a) 35 (0, 0)) := by
            rintro _ ⟨s, rfl⟩
            exact R1.keep s.keep
          have h2 : ∀ w', (∃ s : KW w3, w' = s.w) → w'.heap[gc]? = some (.cells (arr 16 v) 35 (0, 0)) := by
            rintro _ ⟨s, rfl⟩
            exact RC.keep s.keep
          have HA := hide h1
          have HC := hide h2
          have K := hide (And.intro R1 (And.intro R2 (And.intro RC O)))
          clear h1 h2 R1 R2 RC O
          refine wp_region_keep (by kernel_rfl) (by kernel_rfl) ?_
          go_big_quiet_want
          refine quiet_load_row 35 _ rfl gc rfl 35 (arr 16 v) (0, 0) _ HC.out Try.underlying35 rfl (info35 _) ?_
          go_simp
          go_big_quiet_on
          go_big_quiet_want
          refine quiet_load_row 35 _ rfl gc rfl 35 (arr 16 v) (0, 0) _ HC.out Try.underlying35 rfl (info35 _) ?_
          go_simp
          go_big_quiet_on
          go_big_quiet_step ((exact keep_of (H.m2 _)))
          go_big_quiet_want
          refine quiet_load_row 35 _ rfl w.heap.size rfl 35 (arr 16 a) (0, 0) _ HA.out Try.underlying35 rfl (info35 _) ?_
          go_simp
          go_big_quiet_on
          go_big_quiet_want
          refine quiet_neq q1 a _ _ _ rfl rfl rfl ?_
          rw [e1]
          go_simp
          go_big_quiet_on
          refine wpQuiet_nil ?_
          intro s
          obtain ⟨R1, R2, RC, O⟩ := K.out
          replace R1 := R1.keep s.keep
          replace R2 := R2.keep s.keep
          replace RC := RC.keep s.keep
          replace O := O.trans (s.keep.mono O.size)
          clear HA HC hne K
          generalize s.w = w4 at *
          have RCC := RC.cell (i := 0) (by omega)
          cases hp : par v
          · have hb : (bits BinOp.and IntKind.u64 (v 0) 1 == 1) = false := hp
            have RR := hide (R2.setAll v)
            have OO := hide (below_setCells (g := w.heap.size + 1) (by omega) (arr 16 v).toList 0 O)
            have HX := hide RC
            clear RC O R1
            go_wp2_with (first | (refine wpList_load_row rfl 35 _ rfl gc rfl 35 (arr 16 v) (0, 0) _ HX.out Try.underlying35 rfl (info35 _) ?_) | (refine wpList_store_mid rfl 35 _ _ rfl (w.heap.size + 1) 0 (arr 16 v) rfl rfl ?there (info35 _) (arr_one _ _) ?_))
            case there => rw [arr_size]; exact R2.there
            exact bodyPost_ret (v := .tuple #[.agg (arr 16 v), .bool true]) (results_cell_tmp Try.results28 _ _ (w.heap.size + 1) 35 (arr 16 v) (0, 0) _ (.bool true) rfl rfl RR.out Try.underlying35 rfl (info35 _)) rfl ⟨by simp [rrG, e0, e1, hp], OO.out⟩
          · have hb : (bits BinOp.and IntKind.u64 (v 0) 1 == 1) = true := hp
            have HX := hide RC
            clear RC
            go_wp2_with (refine wpList_load_row rfl 35 _ rfl gc rfl 35 (arr 16 v) (0, 0) _ HX.out Try.underlying35 rfl (info35 _) ?_)
            refine (H.n1 _).mono ?_
            rintro _ w8 ⟨rfl, hb8⟩
            replace R2 := R2.keep hb8
            have RC := HX.out.keep hb8
            replace O := O.trans (hb8.mono O.size)
            clear hb8 HX R1 RCC
            have RD := hide (RC.setAll nv)
            have R3 := R2.setOther (k := gc) (by omega) 0 (arr 16 nv).toList
            have RR := hide (R3.setAll nv)
            have OO := hide (below_setCells (g := w.heap.size + 1) (by omega) (arr 16 nv).toList 0 (below_setCells (g := gc) (by omega) (arr 16 nv).toList 0 O))
            go_wp2_with (first | (refine wpList_store_mid rfl 35 _ _ rfl gc 0 (arr 16 nv) rfl rfl ?there (info35 _) (arr_one _ _) ?_) | (refine wpList_load_row rfl 35 _ rfl gc rfl 35 (arr 16 nv) (0, 0) _ RD.out Try.underlying35 rfl (info35 _) ?_) | (refine wpList_store_mid rfl 35 _ _ rfl (w.heap.size + 1) 0 (arr 16 nv) rfl rfl ?there2 (info35 _) (arr_one _ _) ?_))
            case there => rw [arr_size]; exact RC.there
            case there2 => rw [arr_size]; exact R3.there
            exact bodyPost_ret (v := .tuple #[.agg (arr 16 nv), .bool true]) (results_cell_tmp Try.results28 _ _ (w.heap.size + 1) 35 (arr 16 nv) (0, 0) _ (.bool true) rfl rfl RR.out Try.underlying35 rfl (info35 _)) rfl ⟨by simp [rrG, e0, e1, hp], OO.out⟩
      · intro hrest
        replace R1 := rowD R1
        replace R2 := rowD R2
        replace RC := rowD RC
        replace O := O.drew
        generalize w2.drew = W0 at *
        refine wpAny_ready (rs := [0, 1]) (by kernel_rfl) (by simp) ?_
        refine ready_load rfl rfl 35 _ rfl gc (by kernel_rfl) 35 (arr 16 u) (0, 0) _ RC Try.underlying35 rfl (info35 _) ?_ ?_
        · skip
          refine wpAny_ready (rs := [1]) (by kernel_rfl) (by simp) ?_
          refine ready_call 14 #[.int .u32 2] rfl rfl (by kernel_rfl) ?_ ?_
          · refine (rsmall_any 2 _ (by decide) (by decide)).mono ?_
            rintro _ w2 ⟨rfl, hb2⟩
            refine ⟨_, rfl, ?_⟩
            replace R1 := R1.keep hb2
            replace R2 := R2.keep hb2
            replace RC := RC.keep hb2
            replace O := O.trans (hb2.mono O.size)
            clear hb2
            refine wpAny_ready (rs := [2]) (by kernel_rfl) (by simp) ?_
            refine ready_call 49 #[.int .i64 253, .int .i64 5] rfl rfl (by kernel_rfl) ?_ ?_
            · refine (bits_253 _).mono ?_
              rintro _ w3 ⟨b, rfl, _, HB, hb3⟩
              refine ⟨_, rfl, ?_⟩
              replace R1 := R1.keep hb3
              replace R2 := R2.keep hb3
              replace RC := RC.keep hb3
              replace O := O.trans (hb3.mono O.size)
              clear hb3
              refine wpAny_ready (rs := [3]) (by kernel_rfl) (by simp) ?_
              refine ready_call 48 #[.agg (arr 16 (d16 2)), .slice (some ⟨b, 0, none⟩) 253 253] rfl rfl (by kernel_rfl) ?_ ?_
              · refine (H.p1 _ b HB).mono ?_
                rintro _ w4 ⟨rfl, hb4⟩
                refine ⟨_, rfl, ?_⟩
                replace R1 := R1.keep hb4
                replace R2 := R2.keep hb4
                replace RC := RC.keep hb4
                replace HB := HB.keep hb4
                replace O := O.trans (hb4.mono O.size)
                clear hb4
                refine wpAny_ready (rs := [4]) (by kernel_rfl) (by simp) ?_
                refine ready_call 24 #[.agg (arr 16 u), .agg (arr 16 I)] rfl rfl (by kernel_rfl) ?_ ?_
                · refine (H.m1 _).mono ?_
                  rintro _ w5 ⟨rfl, hb5⟩
                  refine ⟨_, rfl, ?_⟩
                  replace R1 := R1.keep hb5
                  replace R2 := R2.keep hb5
                  replace RC := RC.keep hb5
                  replace HB := HB.keep hb5
                  replace O := O.trans (hb5.mono O.size)
                  clear hb5
                  refine wpAny_ready (rs := [5]) (by kernel_rfl) (by simp) ?_
                  refine ready_store rfl rfl 35 _ _ rfl gc 0 (arr 16 v) (by kernel_rfl) (by kernel_rfl) (by rw [arr_size]; exact RC.there) (info35 _) (arr_one _ _) ?_ ?_
                  · skip
                    exact wpAny_done (by kernel_rfl) (hrest _ _ ⟨b, by kernel_rfl, RC.setAll _, R1.setOther (by omega) _ _, R2.setOther (by omega) _ _, below_setCells (by omega) _ _ O⟩) _
                  exact AllReady.nil
                exact AllReady.nil
              exact AllReady.nil
            exact AllReady.nil
          exact AllReady.nil
        refine ready_call 14 #[.int .u32 2] rfl rfl (by kernel_rfl) ?_ ?_
        · refine (rsmall_any 2 _ (by decide) (by decide)).mono ?_
          rintro _ w7 ⟨rfl, hb7⟩
          refine ⟨_, rfl, ?_⟩
          replace R1 := R1.keep hb7
          replace R2 := R2.keep hb7
          replace RC := RC.keep hb7
          replace O := O.trans (hb7.mono O.size)
          clear hb7
          refine wpAny_ready (rs := [0, 2]) (by kernel_rfl) (by simp) ?_
          refine ready_load rfl rfl 35 _ rfl gc (by kernel_rfl) 35 (arr 16 u) (0, 0) _ RC Try.underlying35 rfl (info35 _) ?_ ?_
          · skip
            refine wpAny_ready (rs := [2]) (by kernel_rfl) (by simp) ?_
            refine ready_call 49 #[.int .i64 253, .int .i64 5] rfl rfl (by kernel_rfl) ?_ ?_
            · refine (bits_253 _).mono ?_
              rintro _ w9 ⟨b, rfl, _, HB, hb9⟩
              refine ⟨_, rfl, ?_⟩
              replace R1 := R1.keep hb9
              replace R2 := R2.keep hb9
              replace RC := RC.keep hb9
              replace O := O.trans (hb9.mono O.size)
              clear hb9
              refine wpAny_ready (rs := [3]) (by kernel_rfl) (by simp) ?_
              refine ready_call 48 #[.agg (arr 16 (d16 2)), .slice (some ⟨b, 0, none⟩) 253 253] rfl rfl (by kernel_rfl) ?_ ?_
              · refine (H.p1 _ b HB).mono ?_
                rintro _ w10 ⟨rfl, hb10⟩
                refine ⟨_, rfl, ?_⟩
                replace R1 := R1.keep hb10
                replace R2 := R2.keep hb10
                replace RC := RC.keep hb10
                replace HB := HB.keep hb10
                replace O := O.trans (hb10.mono O.size)
                clear hb10
                refine wpAny_ready (rs := [4]) (by kernel_rfl) (by simp) ?_
                refine ready_call 24 #[.agg (arr 16 u), .agg (arr 16 I)] rfl rfl (by kernel_rfl) ?_ ?_
                · refine (H.m1 _).mono ?_
                  rintro _ w11 ⟨rfl, hb11⟩
                  refine ⟨_, rfl, ?_⟩
                  replace R1 := R1.keep hb11
                  replace R2 := R2.keep hb11
                  replace RC := RC.keep hb11
                  replace HB := HB.keep hb11
                  replace O := O.trans (hb11.mono O.size)
                  clear hb11
                  refine wpAny_ready (rs := [5]) (by kernel_rfl) (by simp) ?_
                  refine ready_store rfl rfl 35 _ _ rfl gc 0 (arr 16 v) (by kernel_rfl) (by kernel_rfl) (by rw [arr_size]; exact RC.there) (info35 _) (arr_one _ _) ?_ ?_
                  · skip
                    exact wpAny_done (by kernel_rfl) (hrest _ _ ⟨b, by kernel_rfl, RC.setAll _, R1.setOther (by omega) _ _, R2.setOther (by omega) _ _, below_setCells (by omega) _ _ O⟩) _
                  exact AllReady.nil
                exact AllReady.nil
              exact AllReady.nil
            exact AllReady.nil
          refine ready_call 49 #[.int .i64 253, .int .i64 5] rfl rfl (by kernel_rfl) ?_ ?_
          · refine (bits_253 _).mono ?_
            rintro _ w13 ⟨b, rfl, _, HB, hb13⟩
            refine ⟨_, rfl, ?_⟩
            replace R1 := R1.keep hb13
            replace R2 := R2.keep hb13
            replace RC := RC.keep hb13
            replace O := O.trans (hb13.mono O.size)
            clear hb13
            refine wpAny_ready (rs := [0, 3]) (by kernel_rfl) (by simp) ?_
            refine ready_load rfl rfl 35 _ rfl gc (by kernel_rfl) 35 (arr 16 u) (0, 0) _ RC Try.underlying35 rfl (info35 _) ?_ ?_
            · skip
              refine wpAny_ready (rs := [3]) (by kernel_rfl) (by simp) ?_
              refine ready_call 48 #[.agg (arr 16 (d16 2)), .slice (some ⟨b, 0, none⟩) 253 253] rfl rfl (by kernel_rfl) ?_ ?_
              · refine (H.p1 _ b HB).mono ?_
                rintro _ w15 ⟨rfl, hb15⟩
                refine ⟨_, rfl, ?_⟩
                replace R1 := R1.keep hb15
                replace R2 := R2.keep hb15
                replace RC := RC.keep hb15
                replace HB := HB.keep hb15
                replace O := O.trans (hb15.mono O.size)
                clear hb15
                refine wpAny_ready (rs := [4]) (by kernel_rfl) (by simp) ?_
                refine ready_call 24 #[.agg (arr 16 u), .agg (arr 16 I)] rfl rfl (by kernel_rfl) ?_ ?_
                · refine (H.m1 _).mono ?_
                  rintro _ w16 ⟨rfl, hb16⟩
                  refine ⟨_, rfl, ?_⟩
                  replace R1 := R1.keep hb16
                  replace R2 := R2.keep hb16
                  replace RC := RC.keep hb16
                  replace HB := HB.keep hb16
                  replace O := O.trans (hb16.mono O.size)
                  clear hb16
                  refine wpAny_ready (rs := [5]) (by kernel_rfl) (by simp) ?_
                  refine ready_store rfl rfl 35 _ _ rfl gc 0 (arr 16 v) (by kernel_rfl) (by kernel_rfl) (by rw [arr_size]; exact RC.there) (info35 _) (arr_one _ _) ?_ ?_
                  · skip
                    exact wpAny_done (by kernel_rfl) (hrest _ _ ⟨b, by kernel_rfl, RC.setAll _, R1.setOther (by omega) _ _, R2.setOther (by omega) _ _, below_setCells (by omega) _ _ O⟩) _
                  exact AllReady.nil
                exact AllReady.nil
              exact AllReady.nil
            refine ready_call 48 #[.agg (arr 16 (d16 2)), .slice (some ⟨b, 0, none⟩) 253 253] rfl rfl (by kernel_rfl) ?_ ?_
            · refine (H.p1 _ b HB).mono ?_
              rintro _ w18 ⟨rfl, hb18⟩
              refine ⟨_, rfl, ?_⟩
              replace R1 := R1.keep hb18
              replace R2 := R2.keep hb18
              replace RC := RC.keep hb18
              replace HB := HB.keep hb18
              replace O := O.trans (hb18.mono O.size)
              clear hb18
              refine wpAny_ready (rs := [0]) (by kernel_rfl) (by simp) ?_
              refine ready_load rfl rfl 35 _ rfl gc (by kernel_rfl) 35 (arr 16 u) (0, 0) _ RC Try.underlying35 rfl (info35 _) ?_ ?_
              · skip
                refine wpAny_ready (rs := [4]) (by kernel_rfl) (by simp) ?_
                refine ready_call 24 #[.agg (arr 16 u), .agg (arr 16 I)] rfl rfl (by kernel_rfl) ?_ ?_
                · refine (H.m1 _).mono ?_
                  rintro _ w20 ⟨rfl, hb20⟩
                  refine ⟨_, rfl, ?_⟩
                  replace R1 := R1.keep hb20
                  replace R2 := R2.keep hb20
                  replace RC := RC.keep hb20
                  replace HB := HB.keep hb20
                  replace O := O.trans (hb20.mono O.size)
                  clear hb20
                  refine wpAny_ready (rs := [5]) (by kernel_rfl) (by simp) ?_
                  refine ready_store rfl rfl 35 _ _ rfl gc 0 (arr 16 v) (by kernel_rfl) (by kernel_rfl) (by rw [arr_size]; exact RC.there) (info35 _) (arr_one _ _) ?_ ?_
                  · skip
                    exact wpAny_done (by kernel_rfl) (hrest _ _ ⟨b, by kernel_rfl, RC.setAll _, R1.setOther (by omega) _ _, R2.setOther (by omega) _ _, below_setCells (by omega) _ _ O⟩) _
                  exact AllReady.nil
                exact AllReady.nil
              exact AllReady.nil
            exact AllReady.nil
          exact AllReady.nil
        exact AllReady.nil
    · skip
      go_simp
      go_wp2_with fail
      have hne := KW.some w1
      have h1 : ∀ w', (∃ s : KW w1, w' = s.w) → w'.heap[w.heap.size]? = some (.cells (arr 16 a) 35 (0, 0)) := by
        rintro _ ⟨s, rfl⟩
        exact R1.keep s.keep
      have h2 : ∀ w', (∃ s : KW w1, w' = s.w) → w'.heap[gc]? = some (.cells (arr 16 u) 35 (0, 0)) := by
        rintro _ ⟨s, rfl⟩
        exact RC.keep s.keep
      have HA := hide h1
      have HC := hide h2
      have K := hide (And.intro R1 (And.intro R2 (And.intro RC O)))
      clear h1 h2 R1 R2 RC O
      refine wp_region_keep (by kernel_rfl) (by kernel_rfl) ?_
      go_big_quiet_want
      refine quiet_load_row 35 _ rfl gc rfl 35 (arr 16 u) (0, 0) _ HC.out Try.underlying35 rfl (info35 _) ?_
      go_simp
      go_big_quiet_on
      go_big_quiet_want
      refine quiet_load_row 35 _ rfl gc rfl 35 (arr 16 u) (0, 0) _ HC.out Try.underlying35 rfl (info35 _) ?_
      go_simp
      go_big_quiet_on
      go_big_quiet_step ((exact keep_of (H.m0 _)))
      go_big_quiet_want
      refine quiet_load_row 35 _ rfl w.heap.size rfl 35 (arr 16 a) (0, 0) _ HA.out Try.underlying35 rfl (info35 _) ?_
      go_simp
      go_big_quiet_on
      go_big_quiet_want
      refine quiet_neq q0 a _ _ _ rfl rfl rfl ?_
      rw [e0]
      go_simp
      go_big_quiet_on
      refine wpQuiet_nil ?_
      intro s
      obtain ⟨R1, R2, RC, O⟩ := K.out
      replace R1 := R1.keep s.keep
      replace R2 := R2.keep s.keep
      replace RC := RC.keep s.keep
      replace O := O.trans (s.keep.mono O.size)
      clear HA HC hne K
      generalize s.w = w2 at *
      go_wp2_with fail
      have hne := KW.some w2
      have h1 : ∀ w', (∃ s : KW w2, w' = s.w) → w'.heap[w.heap.size]? = some (.cells (arr 16 a) 35 (0, 0)) := by
        rintro _ ⟨s, rfl⟩
        exact R1.keep s.keep
      have h2 : ∀ w', (∃ s : KW w2, w' = s.w) → w'.heap[gc]? = some (.cells (arr 16 u) 35 (0, 0)) := by
        rintro _ ⟨s, rfl⟩
        exact RC.keep s.keep
      have HA := hide h1
      have HC := hide h2
      have K := hide (And.intro R1 (And.intro R2 (And.intro RC O)))
      clear h1 h2 R1 R2 RC O
      refine wp_region_keep (by kernel_rfl) (by kernel_rfl) ?_
      go_big_quiet_want
      refine quiet_load_row 35 _ rfl gc rfl 35 (arr 16 u) (0, 0) _ HC.out Try.underlying35 rfl (info35 _) ?_
      go_simp
      go_big_quiet_on
      go_big_quiet_want
      refine quiet_load_row 35 _ rfl gc rfl 35 (arr 16 u) (0, 0) _ HC.out Try.underlying35 rfl (info35 _) ?_
      go_simp
      go_big_quiet_on
      go_big_quiet_step ((exact keep_of (H.m0 _)))
      go_big_quiet_want
      refine quiet_load_row 35 _ rfl w.heap.size rfl 35 (arr 16 a) (0, 0) _ HA.out Try.underlying35 rfl (info35 _) ?_
      go_simp
      go_big_quiet_on
      go_big_quiet_want
      refine quiet_neq q0 a _ _ _ rfl rfl rfl ?_
      rw [e0]
      go_simp
      go_big_quiet_on
      refine wpQuiet_nil ?_
      intro s
      obtain ⟨R1, R2, RC, O⟩ := K.out
      replace R1 := R1.keep s.keep
      replace R2 := R2.keep s.keep
      replace RC := RC.keep s.keep
      replace O := O.trans (s.keep.mono O.size)
      clear HA HC hne K
      generalize s.w = w4 at *
      have RCC := RC.cell (i := 0) (by omega)
      cases hp : par u
      · have hb : (bits BinOp.and IntKind.u64 (u 0) 1 == 1) = false := hp
        have RR := hide (R2.setAll u)
        have OO := hide (below_setCells (g := w.heap.size + 1) (by omega) (arr 16 u).toList 0 O)
        have HX := hide RC
        clear RC O R1
        go_wp2_with (first | (refine wpList_load_row rfl 35 _ rfl gc rfl 35 (arr 16 u) (0, 0) _ HX.out Try.underlying35 rfl (info35 _) ?_) | (refine wpList_store_mid rfl 35 _ _ rfl (w.heap.size + 1) 0 (arr 16 u) rfl rfl ?there (info35 _) (arr_one _ _) ?_))
        case there => rw [arr_size]; exact R2.there
        exact bodyPost_ret (v := .tuple #[.agg (arr 16 u), .bool true]) (results_cell_tmp Try.results28 _ _ (w.heap.size + 1) 35 (arr 16 u) (0, 0) _ (.bool true) rfl rfl RR.out Try.underlying35 rfl (info35 _)) rfl ⟨by simp [rrG, e0, hp], OO.out⟩
      · have hb : (bits BinOp.and IntKind.u64 (u 0) 1 == 1) = true := hp
        have HX := hide RC
        clear RC
        go_wp2_with (refine wpList_load_row rfl 35 _ rfl gc rfl 35 (arr 16 u) (0, 0) _ HX.out Try.underlying35 rfl (info35 _) ?_)
        refine (H.n0 _).mono ?_
        rintro _ w8 ⟨rfl, hb8⟩
        replace R2 := R2.keep hb8
        have RC := HX.out.keep hb8
        replace O := O.trans (hb8.mono O.size)
        clear hb8 HX R1 RCC
        have RD := hide (RC.setAll nu)
        have R3 := R2.setOther (k := gc) (by omega) 0 (arr 16 nu).toList
        have RR := hide (R3.setAll nu)
        have OO := hide (below_setCells (g := w.heap.size + 1) (by omega) (arr 16 nu).toList 0 (below_setCells (g := gc) (by omega) (arr 16 nu).toList 0 O))
        go_wp2_with (first | (refine wpList_store_mid rfl 35 _ _ rfl gc 0 (arr 16 nu) rfl rfl ?there (info35 _) (arr_one _ _) ?_) | (refine wpList_load_row rfl 35 _ rfl gc rfl 35 (arr 16 nu) (0, 0) _ RD.out Try.underlying35 rfl (info35 _) ?_) | (refine wpList_store_mid rfl 35 _ _ rfl (w.heap.size + 1) 0 (arr 16 nu) rfl rfl ?there2 (info35 _) (arr_one _ _) ?_))
        case there => rw [arr_size]; exact RC.there
        case there2 => rw [arr_size]; exact R3.there
        exact bodyPost_ret (v := .tuple #[.agg (arr 16 nu), .bool true]) (results_cell_tmp Try.results28 _ _ (w.heap.size + 1) 35 (arr 16 nu) (0, 0) _ (.bool true) rfl rfl RR.out Try.underlying35 rfl (info35 _)) rfl ⟨by simp [rrG, e0, hp], OO.out⟩
  · intro hrest
    replace R1 := rowD R1
    replace R2 := rowD R2
    replace O := O.drew
    generalize W.drew = W0 at *
    refine wpAny_ready (rs := [0, 1, 3]) (by kernel_rfl) (by simp) ?_
    refine ready_load rfl rfl 35 _ rfl w.heap.size (by kernel_rfl) 35 (arr 16 a) (0, 0) _ R1 Try.underlying35 rfl (info35 _) ?_ ?_
    · skip
      refine wpAny_ready (rs := [1, 3]) (by kernel_rfl) (by simp) ?_
      refine ready_call 49 #[.int .i64 252, .int .i64 2] rfl rfl (by kernel_rfl) ?_ ?_
      · refine (bits_252 _).mono ?_
        rintro _ w2 ⟨b, rfl, _, HB, hb2⟩
        refine ⟨_, rfl, ?_⟩
        replace R1 := R1.keep hb2
        replace R2 := R2.keep hb2
        replace O := O.trans (hb2.mono O.size)
        clear hb2
        refine wpAny_ready (rs := [2, 3]) (by kernel_rfl) (by simp) ?_
        refine ready_call 48 #[.agg (arr 16 a), .slice (some ⟨b, 0, none⟩) 252 252] rfl rfl (by kernel_rfl) ?_ ?_
        · refine (H.p0 _ b HB).mono ?_
          rintro _ w3 ⟨rfl, hb3⟩
          refine ⟨_, rfl, ?_⟩
          replace R1 := R1.keep hb3
          replace R2 := R2.keep hb3
          replace HB := HB.keep hb3
          replace O := O.trans (hb3.mono O.size)
          clear hb3
          refine wpAny_ready (rs := [3]) (by kernel_rfl) (by simp) ?_
          refine ready_alloc (.cells (arr 16 fun _ => 0) 35) rfl rfl (by kernel_rfl) ?_ ?_
          · have RC := Row.new w3 35 16 (fun _ => 0)
            have bgt := R2.lt
            replace R1 := R1.keep (new_below _ (.cells (arr 16 fun _ => 0) 35))
            replace R2 := R2.keep (new_below _ (.cells (arr 16 fun _ => 0) 35))
            replace HB := HB.keep (new_below _ (.cells (arr 16 fun _ => 0) 35))
            replace O := O.trans ((new_below _ (.cells (arr 16 fun _ => 0) 35)).mono O.size)
            generalize w3.heap.size = gc at *
            generalize w3.alloc (.cells (arr 16 fun _ => 0) 35) = w4 at *
            refine wpAny_ready (rs := [4]) (by kernel_rfl) (by simp) ?_
            refine ready_store rfl rfl 35 _ _ rfl gc 0 (arr 16 u) (by kernel_rfl) (by kernel_rfl) (by rw [arr_size]; exact RC.there) (info35 _) (arr_one _ _) ?_ ?_
            · skip
              exact wpAny_done (by kernel_rfl) (hrest _ _ ⟨gc, b, by kernel_rfl, RC.setAll _, R1.setOther (by omega) _ _, R2.setOther (by omega) _ _, bgt, below_setCells (by omega) _ _ O⟩) _
            exact AllReady.nil
          exact AllReady.nil
        refine ready_alloc (.cells (arr 16 fun _ => 0) 35) rfl rfl (by kernel_rfl) ?_ ?_
        · have RC := Row.new w2 35 16 (fun _ => 0)
          have bgt := R2.lt
          replace R1 := R1.keep (new_below _ (.cells (arr 16 fun _ => 0) 35))
          replace R2 := R2.keep (new_below _ (.cells (arr 16 fun _ => 0) 35))
          replace HB := HB.keep (new_below _ (.cells (arr 16 fun _ => 0) 35))
          replace O := O.trans ((new_below _ (.cells (arr 16 fun _ => 0) 35)).mono O.size)
          generalize w2.heap.size = gc at *
          generalize w2.alloc (.cells (arr 16 fun _ => 0) 35) = w6 at *
          refine wpAny_ready (rs := [2]) (by kernel_rfl) (by simp) ?_
          refine ready_call 48 #[.agg (arr 16 a), .slice (some ⟨b, 0, none⟩) 252 252] rfl rfl (by kernel_rfl) ?_ ?_
          · refine (H.p0 _ b HB).mono ?_
            rintro _ w7 ⟨rfl, hb7⟩
            refine ⟨_, rfl, ?_⟩
            replace R1 := R1.keep hb7
            replace R2 := R2.keep hb7
            replace RC := RC.keep hb7
            replace HB := HB.keep hb7
            replace O := O.trans (hb7.mono O.size)
            clear hb7
            refine wpAny_ready (rs := [4]) (by kernel_rfl) (by simp) ?_
            refine ready_store rfl rfl 35 _ _ rfl gc 0 (arr 16 u) (by kernel_rfl) (by kernel_rfl) (by rw [arr_size]; exact RC.there) (info35 _) (arr_one _ _) ?_ ?_
            · skip
              exact wpAny_done (by kernel_rfl) (hrest _ _ ⟨gc, b, by kernel_rfl, RC.setAll _, R1.setOther (by omega) _ _, R2.setOther (by omega) _ _, bgt, below_setCells (by omega) _ _ O⟩) _
            exact AllReady.nil
          exact AllReady.nil
        exact AllReady.nil
      refine ready_alloc (.cells (arr 16 fun _ => 0) 35) rfl rfl (by kernel_rfl) ?_ ?_
      · have RC := Row.new W0 35 16 (fun _ => 0)
        have bgt := R2.lt
        replace R1 := R1.keep (new_below _ (.cells (arr 16 fun _ => 0) 35))
        replace R2 := R2.keep (new_below _ (.cells (arr 16 fun _ => 0) 35))
        replace O := O.trans ((new_below _ (.cells (arr 16 fun _ => 0) 35)).mono O.size)
        generalize W0.heap.size = gc at *
        generalize W0.alloc (.cells (arr 16 fun _ => 0) 35) = w9 at *
        refine wpAny_ready (rs := [1]) (by kernel_rfl) (by simp) ?_
        refine ready_call 49 #[.int .i64 252, .int .i64 2] rfl rfl (by kernel_rfl) ?_ ?_
        · refine (bits_252 _).mono ?_
          rintro _ w10 ⟨b, rfl, _, HB, hb10⟩
          refine ⟨_, rfl, ?_⟩
          replace R1 := R1.keep hb10
          replace R2 := R2.keep hb10
          replace RC := RC.keep hb10
          replace O := O.trans (hb10.mono O.size)
          clear hb10
          refine wpAny_ready (rs := [2]) (by kernel_rfl) (by simp) ?_
          refine ready_call 48 #[.agg (arr 16 a), .slice (some ⟨b, 0, none⟩) 252 252] rfl rfl (by kernel_rfl) ?_ ?_
          · refine (H.p0 _ b HB).mono ?_
            rintro _ w11 ⟨rfl, hb11⟩
            refine ⟨_, rfl, ?_⟩
            replace R1 := R1.keep hb11
            replace R2 := R2.keep hb11
            replace RC := RC.keep hb11
            replace HB := HB.keep hb11
            replace O := O.trans (hb11.mono O.size)
            clear hb11
            refine wpAny_ready (rs := [4]) (by kernel_rfl) (by simp) ?_
            refine ready_store rfl rfl 35 _ _ rfl gc 0 (arr 16 u) (by kernel_rfl) (by kernel_rfl) (by rw [arr_size]; exact RC.there) (info35 _) (arr_one _ _) ?_ ?_
            · skip
              exact wpAny_done (by kernel_rfl) (hrest _ _ ⟨gc, b, by kernel_rfl, RC.setAll _, R1.setOther (by omega) _ _, R2.setOther (by omega) _ _, bgt, below_setCells (by omega) _ _ O⟩) _
            exact AllReady.nil
          exact AllReady.nil
        exact AllReady.nil
      exact AllReady.nil
    refine ready_call 49 #[.int .i64 252, .int .i64 2] rfl rfl (by kernel_rfl) ?_ ?_
    · refine (bits_252 _).mono ?_
      rintro _ w13 ⟨b, rfl, _, HB, hb13⟩
      refine ⟨_, rfl, ?_⟩
      replace R1 := R1.keep hb13
      replace R2 := R2.keep hb13
      replace O := O.trans (hb13.mono O.size)
      clear hb13
      refine wpAny_ready (rs := [0, 3]) (by kernel_rfl) (by simp) ?_
      refine ready_load rfl rfl 35 _ rfl w.heap.size (by kernel_rfl) 35 (arr 16 a) (0, 0) _ R1 Try.underlying35 rfl (info35 _) ?_ ?_
      · skip
        refine wpAny_ready (rs := [2, 3]) (by kernel_rfl) (by simp) ?_
        refine ready_call 48 #[.agg (arr 16 a), .slice (some ⟨b, 0, none⟩) 252 252] rfl rfl (by kernel_rfl) ?_ ?_
        · refine (H.p0 _ b HB).mono ?_
          rintro _ w15 ⟨rfl, hb15⟩
          refine ⟨_, rfl, ?_⟩
          replace R1 := R1.keep hb15
          replace R2 := R2.keep hb15
          replace HB := HB.keep hb15
          replace O := O.trans (hb15.mono O.size)
          clear hb15
          refine wpAny_ready (rs := [3]) (by kernel_rfl) (by simp) ?_
          refine ready_alloc (.cells (arr 16 fun _ => 0) 35) rfl rfl (by kernel_rfl) ?_ ?_
          · have RC := Row.new w15 35 16 (fun _ => 0)
            have bgt := R2.lt
            replace R1 := R1.keep (new_below _ (.cells (arr 16 fun _ => 0) 35))
            replace R2 := R2.keep (new_below _ (.cells (arr 16 fun _ => 0) 35))
            replace HB := HB.keep (new_below _ (.cells (arr 16 fun _ => 0) 35))
            replace O := O.trans ((new_below _ (.cells (arr 16 fun _ => 0) 35)).mono O.size)
            generalize w15.heap.size = gc at *
            generalize w15.alloc (.cells (arr 16 fun _ => 0) 35) = w16 at *
            refine wpAny_ready (rs := [4]) (by kernel_rfl) (by simp) ?_
            refine ready_store rfl rfl 35 _ _ rfl gc 0 (arr 16 u) (by kernel_rfl) (by kernel_rfl) (by rw [arr_size]; exact RC.there) (info35 _) (arr_one _ _) ?_ ?_
            · skip
              exact wpAny_done (by kernel_rfl) (hrest _ _ ⟨gc, b, by kernel_rfl, RC.setAll _, R1.setOther (by omega) _ _, R2.setOther (by omega) _ _, bgt, below_setCells (by omega) _ _ O⟩) _
            exact AllReady.nil
          exact AllReady.nil
        refine ready_alloc (.cells (arr 16 fun _ => 0) 35) rfl rfl (by kernel_rfl) ?_ ?_
        · have RC := Row.new w13 35 16 (fun _ => 0)
          have bgt := R2.lt
          replace R1 := R1.keep (new_below _ (.cells (arr 16 fun _ => 0) 35))
          replace R2 := R2.keep (new_below _ (.cells (arr 16 fun _ => 0) 35))
          replace HB := HB.keep (new_below _ (.cells (arr 16 fun _ => 0) 35))
          replace O := O.trans ((new_below _ (.cells (arr 16 fun _ => 0) 35)).mono O.size)
          generalize w13.heap.size = gc at *
          generalize w13.alloc (.cells (arr 16 fun _ => 0) 35) = w18 at *
          refine wpAny_ready (rs := [2]) (by kernel_rfl) (by simp) ?_
          refine ready_call 48 #[.agg (arr 16 a), .slice (some ⟨b, 0, none⟩) 252 252] rfl rfl (by kernel_rfl) ?_ ?_
          · refine (H.p0 _ b HB).mono ?_
            rintro _ w19 ⟨rfl, hb19⟩
            refine ⟨_, rfl, ?_⟩
            replace R1 := R1.keep hb19
            replace R2 := R2.keep hb19
            replace RC := RC.keep hb19
            replace HB := HB.keep hb19
            replace O := O.trans (hb19.mono O.size)
            clear hb19
            refine wpAny_ready (rs := [4]) (by kernel_rfl) (by simp) ?_
            refine ready_store rfl rfl 35 _ _ rfl gc 0 (arr 16 u) (by kernel_rfl) (by kernel_rfl) (by rw [arr_size]; exact RC.there) (info35 _) (arr_one _ _) ?_ ?_
            · skip
              exact wpAny_done (by kernel_rfl) (hrest _ _ ⟨gc, b, by kernel_rfl, RC.setAll _, R1.setOther (by omega) _ _, R2.setOther (by omega) _ _, bgt, below_setCells (by omega) _ _ O⟩) _
            exact AllReady.nil
          exact AllReady.nil
        exact AllReady.nil
      refine ready_alloc (.cells (arr 16 fun _ => 0) 35) rfl rfl (by kernel_rfl) ?_ ?_
      · have RC := Row.new w13 35 16 (fun _ => 0)
        have bgt := R2.lt
        replace R1 := R1.keep (new_below _ (.cells (arr 16 fun _ => 0) 35))
        replace R2 := R2.keep (new_below _ (.cells (arr 16 fun _ => 0) 35))
        replace HB := HB.keep (new_below _ (.cells (arr 16 fun _ => 0) 35))
        replace O := O.trans ((new_below _ (.cells (arr 16 fun _ => 0) 35)).mono O.size)
        generalize w13.heap.size = gc at *
        generalize w13.alloc (.cells (arr 16 fun _ => 0) 35) = w21 at *
        refine wpAny_ready (rs := [0]) (by kernel_rfl) (by simp) ?_
        refine ready_load rfl rfl 35 _ rfl w.heap.size (by kernel_rfl) 35 (arr 16 a) (0, 0) _ R1 Try.underlying35 rfl (info35 _) ?_ ?_
        · skip
          refine wpAny_ready (rs := [2]) (by kernel_rfl) (by simp) ?_
          refine ready_call 48 #[.agg (arr 16 a), .slice (some ⟨b, 0, none⟩) 252 252] rfl rfl (by kernel_rfl) ?_ ?_
          · refine (H.p0 _ b HB).mono ?_
            rintro _ w23 ⟨rfl, hb23⟩
            refine ⟨_, rfl, ?_⟩
            replace R1 := R1.keep hb23
            replace R2 := R2.keep hb23
            replace RC := RC.keep hb23
            replace HB := HB.keep hb23
            replace O := O.trans (hb23.mono O.size)
            clear hb23
            refine wpAny_ready (rs := [4]) (by kernel_rfl) (by simp) ?_
            refine ready_store rfl rfl 35 _ _ rfl gc 0 (arr 16 u) (by kernel_rfl) (by kernel_rfl) (by rw [arr_size]; exact RC.there) (info35 _) (arr_one _ _) ?_ ?_
            · skip
              exact wpAny_done (by kernel_rfl) (hrest _ _ ⟨gc, b, by kernel_rfl, RC.setAll _, R1.setOther (by omega) _ _, R2.setOther (by omega) _ _, bgt, below_setCells (by omega) _ _ O⟩) _
            exact AllReady.nil
          exact AllReady.nil
        exact AllReady.nil
      exact AllReady.nil
    refine ready_alloc (.cells (arr 16 fun _ => 0) 35) rfl rfl (by kernel_rfl) ?_ ?_
    · have RC := Row.new W0 35 16 (fun _ => 0)
      have bgt := R2.lt
      replace R1 := R1.keep (new_below _ (.cells (arr 16 fun _ => 0) 35))
      replace R2 := R2.keep (new_below _ (.cells (arr 16 fun _ => 0) 35))
      replace O := O.trans ((new_below _ (.cells (arr 16 fun _ => 0) 35)).mono O.size)
      generalize W0.heap.size = gc at *
      generalize W0.alloc (.cells (arr 16 fun _ => 0) 35) = w25 at *
      refine wpAny_ready (rs := [0, 1]) (by kernel_rfl) (by simp) ?_
      refine ready_load rfl rfl 35 _ rfl w.heap.size (by kernel_rfl) 35 (arr 16 a) (0, 0) _ R1 Try.underlying35 rfl (info35 _) ?_ ?_
      · skip
        refine wpAny_ready (rs := [1]) (by kernel_rfl) (by simp) ?_
        refine ready_call 49 #[.int .i64 252, .int .i64 2] rfl rfl (by kernel_rfl) ?_ ?_
        · refine (bits_252 _).mono ?_
          rintro _ w27 ⟨b, rfl, _, HB, hb27⟩
          refine ⟨_, rfl, ?_⟩
          replace R1 := R1.keep hb27
          replace R2 := R2.keep hb27
          replace RC := RC.keep hb27
          replace O := O.trans (hb27.mono O.size)
          clear hb27
          refine wpAny_ready (rs := [2]) (by kernel_rfl) (by simp) ?_
          refine ready_call 48 #[.agg (arr 16 a), .slice (some ⟨b, 0, none⟩) 252 252] rfl rfl (by kernel_rfl) ?_ ?_
          · refine (H.p0 _ b HB).mono ?_
            rintro _ w28 ⟨rfl, hb28⟩
            refine ⟨_, rfl, ?_⟩
            replace R1 := R1.keep hb28
            replace R2 := R2.keep hb28
            replace RC := RC.keep hb28
            replace HB := HB.keep hb28
            replace O := O.trans (hb28.mono O.size)
            clear hb28
            refine wpAny_ready (rs := [4]) (by kernel_rfl) (by simp) ?_
            refine ready_store rfl rfl 35 _ _ rfl gc 0 (arr 16 u) (by kernel_rfl) (by kernel_rfl) (by rw [arr_size]; exact RC.there) (info35 _) (arr_one _ _) ?_ ?_
            · skip
              exact wpAny_done (by kernel_rfl) (hrest _ _ ⟨gc, b, by kernel_rfl, RC.setAll _, R1.setOther (by omega) _ _, R2.setOther (by omega) _ _, bgt, below_setCells (by omega) _ _ O⟩) _
            exact AllReady.nil
          exact AllReady.nil
        exact AllReady.nil
      refine ready_call 49 #[.int .i64 252, .int .i64 2] rfl rfl (by kernel_rfl) ?_ ?_
      · refine (bits_252 _).mono ?_
        rintro _ w30 ⟨b, rfl, _, HB, hb30⟩
        refine ⟨_, rfl, ?_⟩
        replace R1 := R1.keep hb30
        replace R2 := R2.keep hb30
        replace RC := RC.keep hb30
        replace O := O.trans (hb30.mono O.size)
        clear hb30
        refine wpAny_ready (rs := [0]) (by kernel_rfl) (by simp) ?_
        refine ready_load rfl rfl 35 _ rfl w.heap.size (by kernel_rfl) 35 (arr 16 a) (0, 0) _ R1 Try.underlying35 rfl (info35 _) ?_ ?_
        · skip
          refine wpAny_ready (rs := [2]) (by kernel_rfl) (by simp) ?_
          refine ready_call 48 #[.agg (arr 16 a), .slice (some ⟨b, 0, none⟩) 252 252] rfl rfl (by kernel_rfl) ?_ ?_
          · refine (H.p0 _ b HB).mono ?_
            rintro _ w32 ⟨rfl, hb32⟩
            refine ⟨_, rfl, ?_⟩
            replace R1 := R1.keep hb32
            replace R2 := R2.keep hb32
            replace RC := RC.keep hb32
            replace HB := HB.keep hb32
            replace O := O.trans (hb32.mono O.size)
            clear hb32
            refine wpAny_ready (rs := [4]) (by kernel_rfl) (by simp) ?_
            refine ready_store rfl rfl 35 _ _ rfl gc 0 (arr 16 u) (by kernel_rfl) (by kernel_rfl) (by rw [arr_size]; exact RC.there) (info35 _) (arr_one _ _) ?_ ?_
            · skip
              exact wpAny_done (by kernel_rfl) (hrest _ _ ⟨gc, b, by kernel_rfl, RC.setAll _, R1.setOther (by omega) _ _, R2.setOther (by omega) _ _, bgt, below_setCells (by omega) _ _ O⟩) _
            exact AllReady.nil
          exact AllReady.nil
        exact AllReady.nil
      exact AllReady.nil
    exact AllReady.nil

end Go.Proofs.Ytamokcoobfmogaa
