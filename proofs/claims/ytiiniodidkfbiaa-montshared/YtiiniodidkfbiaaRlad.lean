/- The contract of the document's Ladder, one round: told by what its callees hand back. -/
import Derived.Test.YtiiniodidkfbiaaShared
namespace Go.Proofs.Ytiiniodidkfbiaa
open Go.RowKit

/-- What the callees of a round hand back. -/
structure RF (x1 x2 z2 x3 z3 a aa d dd e u1 da u2 cb s t t2 nx3 nz3 nx2 k1 k2 k3 nz2 : Nat → Int) : Prop where
  h1 : ∀ w, Calls Try.prog 34 #[.agg (arr 16 x2), .agg (arr 16 z2)] w fun r w' => r = .returned (.agg (arr 16 a)) ∧ Below w.heap.size w w'
  h2 : ∀ w, Calls Try.prog 35 #[.agg (arr 16 a), .agg (arr 16 a)] w fun r w' => r = .returned (.agg (arr 16 aa)) ∧ Below w.heap.size w w'
  h3 : ∀ w, Calls Try.prog 36 #[.agg (arr 16 x2), .agg (arr 16 z2)] w fun r w' => r = .returned (.agg (arr 16 d)) ∧ Below w.heap.size w w'
  h4 : ∀ w, Calls Try.prog 35 #[.agg (arr 16 d), .agg (arr 16 d)] w fun r w' => r = .returned (.agg (arr 16 dd)) ∧ Below w.heap.size w w'
  h5 : ∀ w, Calls Try.prog 36 #[.agg (arr 16 aa), .agg (arr 16 dd)] w fun r w' => r = .returned (.agg (arr 16 e)) ∧ Below w.heap.size w w'
  h6 : ∀ w, Calls Try.prog 36 #[.agg (arr 16 x3), .agg (arr 16 z3)] w fun r w' => r = .returned (.agg (arr 16 u1)) ∧ Below w.heap.size w w'
  h7 : ∀ w, Calls Try.prog 35 #[.agg (arr 16 u1), .agg (arr 16 a)] w fun r w' => r = .returned (.agg (arr 16 da)) ∧ Below w.heap.size w w'
  h8 : ∀ w, Calls Try.prog 34 #[.agg (arr 16 x3), .agg (arr 16 z3)] w fun r w' => r = .returned (.agg (arr 16 u2)) ∧ Below w.heap.size w w'
  h9 : ∀ w, Calls Try.prog 35 #[.agg (arr 16 u2), .agg (arr 16 d)] w fun r w' => r = .returned (.agg (arr 16 cb)) ∧ Below w.heap.size w w'
  h10 : ∀ w, Calls Try.prog 34 #[.agg (arr 16 da), .agg (arr 16 cb)] w fun r w' => r = .returned (.agg (arr 16 s)) ∧ Below w.heap.size w w'
  h11 : ∀ w, Calls Try.prog 35 #[.agg (arr 16 s), .agg (arr 16 s)] w fun r w' => r = .returned (.agg (arr 16 nx3)) ∧ Below w.heap.size w w'
  h12 : ∀ w, Calls Try.prog 36 #[.agg (arr 16 da), .agg (arr 16 cb)] w fun r w' => r = .returned (.agg (arr 16 t)) ∧ Below w.heap.size w w'
  h13 : ∀ w, Calls Try.prog 35 #[.agg (arr 16 t), .agg (arr 16 t)] w fun r w' => r = .returned (.agg (arr 16 t2)) ∧ Below w.heap.size w w'
  h14 : ∀ w, Calls Try.prog 35 #[.agg (arr 16 x1), .agg (arr 16 t2)] w fun r w' => r = .returned (.agg (arr 16 nz3)) ∧ Below w.heap.size w w'
  h15 : ∀ w, Calls Try.prog 35 #[.agg (arr 16 aa), .agg (arr 16 dd)] w fun r w' => r = .returned (.agg (arr 16 nx2)) ∧ Below w.heap.size w w'
  h17 : ∀ w, Calls Try.prog 35 #[.agg (arr 16 k1), .agg (arr 16 e)] w fun r w' => r = .returned (.agg (arr 16 k2)) ∧ Below w.heap.size w w'
  h18 : ∀ w, Calls Try.prog 34 #[.agg (arr 16 aa), .agg (arr 16 k2)] w fun r w' => r = .returned (.agg (arr 16 k3)) ∧ Below w.heap.size w w'
  h19 : ∀ w, Calls Try.prog 35 #[.agg (arr 16 e), .agg (arr 16 k3)] w fun r w' => r = .returned (.agg (arr 16 nz2)) ∧ Below w.heap.size w w'
  h16 : ∀ w, Calls Try.prog 33 #[.int .u32 121665] w fun r w' => r = .returned (.agg (arr 16 k1)) ∧ Below w.heap.size w w'

theorem plain_cut {P : Program} {id : Nat} {ops : Array Oper} {a : Act} {w : World} {Q : Exit → Act → World → Prop} (R : Act → Act → World → Prop) (h1 : (Code.region id ops false).wp P (fun x a' w' => x = .normal ∧ R a a' w') a w) (h2 : ∀ a' w', R a a' w' → Q .normal a' w') : (Code.region id ops false).wp P Q a w :=
  wp_mono h1 fun x a' w' ⟨hx, hr⟩ => by
    subst hx
    exact h2 a' w' hr

theorem run_conv_op {a : Act} {o : Oper} {W : World} {g cap n : Nat} {B : ByteArray} (t : Operand) (ho : o.op = .convert 32 9 t) (hx : a.eval t = .slice (some ⟨g, 0, none⟩) n cap) (h : (convert 32 9 (.slice (some ⟨g, 0, none⟩) n cap)).run Try.prog W = .ok (.string B) W) : (execOp a.eval o).run Try.prog W = .ok (.value (.string B)) W := by
  unfold execOp
  simp only [ho, hx, Sem.run_bind, h, Result.andThen_ok, Sem.run_pure]

theorem inf35 : (Try.prog.info? 35).map (·.size) = some 16 := by kernel_rfl

/-- The four numbers of the document's ladder. -/
structure RS where
  x2 : Int
  z2 : Int
  x3 : Int
  z3 : Int
def rstep (x1 : Int) (q : RS) : RS :=
  let a := (q.x2 + q.z2) % Pm
  let aa := a * a % Pm
  let d := (q.x2 - q.z2) % Pm
  let dd := d * d % Pm
  let e := (aa - dd) % Pm
  let da := (q.x3 - q.z3) % Pm * a % Pm
  let cb := (q.x3 + q.z3) % Pm * d % Pm
  let s := (da + cb) % Pm
  let t := (da - cb) % Pm
  ⟨aa * dd % Pm, e * ((aa + 121665 * e % Pm) % Pm) % Pm, s * s % Pm, x1 * (t * t % Pm) % Pm⟩
def RS.swap (q : RS) : RS := ⟨q.x3, q.z3, q.x2, q.z2⟩
def rladF (s : ByteArray) (x1 : Int) : Nat → RS
  | 0 => ⟨1, 0, x1, 1⟩
  | k + 1 => if bit s (254 - k) = 0 then rstep x1 (rladF s x1 k) else (rstep x1 (rladF s x1 k).swap).swap
structure RS.Ok (q : RS) : Prop where
  x2 : 0 ≤ q.x2 ∧ q.x2 < Pm
  z2 : 0 ≤ q.z2 ∧ q.z2 < Pm
  x3 : 0 ≤ q.x3 ∧ q.x3 < Pm
  z3 : 0 ≤ q.z3 ∧ q.z3 < Pm
theorem pmod (X : Int) : 0 ≤ X % Pm ∧ X % Pm < Pm := ⟨Int.emod_nonneg _ (by decide), Int.emod_lt_of_pos _ (by decide)⟩
theorem RS.Ok.swap {q : RS} (h : q.Ok) : q.swap.Ok := ⟨h.x3, h.z3, h.x2, h.z2⟩
theorem rstep_ok (x1 : Int) (q : RS) : (rstep x1 q).Ok := ⟨pmod _, pmod _, pmod _, pmod _⟩
theorem rladF_ok (s : ByteArray) {x1 : Int} (h : 0 ≤ x1 ∧ x1 < Pm) : ∀ k, (rladF s x1 k).Ok
  | 0 => ⟨⟨show (0 : Int) ≤ 1 by decide, show (1 : Int) < Pm by decide⟩, ⟨show (0 : Int) ≤ 0 by decide, show (0 : Int) < Pm by decide⟩, h, ⟨show (0 : Int) ≤ 1 by decide, show (1 : Int) < Pm by decide⟩⟩
  | k + 1 => by
    unfold rladF
    by_cases hb : bit s (254 - k) = 0
    · rw [if_pos hb]
      exact rstep_ok _ _
    · rw [if_neg hb]
      exact (rstep_ok _ _).swap

theorem dSP {X : Int} (h : 0 ≤ X ∧ X < Pm) : S (d16 X) 16 = X := by
  have := dS X
  rwa [Int.emod_eq_of_lt h.1 h.2] at this

/-- The round's numbers. -/
theorem rf_of {X1 X2 Z2 X3 Z3 : Int} (h1 : 0 ≤ X1 ∧ X1 < Pm) (h2 : 0 ≤ X2 ∧ X2 < Pm) (h3 : 0 ≤ Z2 ∧ Z2 < Pm) (h4 : 0 ≤ X3 ∧ X3 < Pm) (h5 : 0 ≤ Z3 ∧ Z3 < Pm) :
    ∃ a aa d dd e u1 da u2 cb s t t2 k1 k2 k3 : Nat → Int, RF (d16 X1) (d16 X2) (d16 Z2) (d16 X3) (d16 Z3) a aa d dd e u1 da u2 cb s t t2 (d16 (rstep X1 ⟨X2, Z2, X3, Z3⟩).x3) (d16 (rstep X1 ⟨X2, Z2, X3, Z3⟩).z3) (d16 (rstep X1 ⟨X2, Z2, X3, Z3⟩).x2) k1 k2 k3 (d16 (rstep X1 ⟨X2, Z2, X3, Z3⟩).z2) := by
  have A : ∀ {X Y : Int}, (0 ≤ X ∧ X < Pm) → (0 ≤ Y ∧ Y < Pm) → ∀ w, Calls Try.prog 34 #[.agg (arr 16 (d16 X)), .agg (arr 16 (d16 Y))] w fun r w' => r = .returned (.agg (arr 16 (d16 ((X + Y) % Pm)))) ∧ Below w.heap.size w w' := fun {X Y} hx hy w => by
    have h := radd_any (d16 X) (d16 Y) w (d16_dig _ 16) (d16_dig _ 16)
    rwa [dSP hx, dSP hy] at h
  have B : ∀ {X Y : Int}, (0 ≤ X ∧ X < Pm) → (0 ≤ Y ∧ Y < Pm) → ∀ w, Calls Try.prog 36 #[.agg (arr 16 (d16 X)), .agg (arr 16 (d16 Y))] w fun r w' => r = .returned (.agg (arr 16 (d16 ((X - Y) % Pm)))) ∧ Below w.heap.size w w' := fun {X Y} hx hy w => by
    have h := rsub_any (d16 X) (d16 Y) w (d16_dig _ 16) (d16_dig _ 16) (by rw [dSP hy]; exact hy.2)
    rwa [dSP hx, dSP hy] at h
  have M : ∀ {X Y : Int}, (0 ≤ X ∧ X < Pm) → (0 ≤ Y ∧ Y < Pm) → ∀ w, Calls Try.prog 35 #[.agg (arr 16 (d16 X)), .agg (arr 16 (d16 Y))] w fun r w' => r = .returned (.agg (arr 16 (d16 (X * Y % Pm)))) ∧ Below w.heap.size w w' := fun {X Y} hx hy w => by
    have h := rmul_any (d16 X) (d16 Y) w (d16_dig _ 16) (d16_dig _ 16)
    rwa [dSP hx, dSP hy] at h
  have T : ∀ w, Calls Try.prog 33 #[.int .u32 121665] w fun r w' => r = .returned (.agg (arr 16 (d16 121665))) ∧ Below w.heap.size w w' := fun w => rsmall_any 121665 w (by decide) (by decide)
  have k : (0 : Int) ≤ 121665 ∧ (121665 : Int) < Pm := ⟨by decide, by decide⟩
  exact ⟨_, _, _, _, _, _, _, _, _, _, _, _, _, _, _, ⟨A h2 h3, M (pmod _) (pmod _), B h2 h3, M (pmod _) (pmod _), B (pmod _) (pmod _), B h4 h5, M (pmod _) (pmod _), A h4 h5, M (pmod _) (pmod _), A (pmod _) (pmod _), M (pmod _) (pmod _), B (pmod _) (pmod _), M (pmod _) (pmod _), M h1 (pmod _), M (pmod _) (pmod _), M k (pmod _), A (pmod _) (pmod _), M (pmod _) (pmod _), T⟩⟩



set_option maxRecDepth 100000 in
set_option maxHeartbeats 16000000 in
theorem ladder_any (sec u : ByteArray) (w : World) (hsec : sec.size = 32) (hu0 : u.size = 32) :
    Calls Try.prog 19 #[.string sec, .string u] w fun r w' => r = .returned (.string (bs (rb (d16 ((rladF (clS sec) (val (mkS u) % Pm) 255).x2 * pwm (rladF (clS sec) (val (mkS u) % Pm) 255).z2 (xbit 255 21) 255 % Pm)) 32))) ∧ Below w.heap.size w w' := by
  have H1 : Hid (∀ w, Calls Try.prog 32 #[.string sec] w fun r w' => r = .returned (.string (clS sec)) ∧ Below w.heap.size w w') := hide fun w => rclamp_yes sec w hsec
  have H2 : Hid (∀ w, Calls Try.prog 12 #[.string (mkS u)] w fun r w' => r = .returned (.agg (arr 16 (d16 (val (mkS u) % Pm)))) ∧ Below w.heap.size w w') := hide fun w => rof_any (mkS u) w (mkS_size u)
  have H3 : Hid (∀ w, Calls Try.prog 33 #[.int .u32 1] w fun r w' => r = .returned (.agg (arr 16 (d16 1))) ∧ Below w.heap.size w w') := hide fun w => rsmall_any 1 w (by decide) (by decide)
  have hX := pmod (val (mkS u))
  have hC := clS_size sec
  generalize val (mkS u) % Pm = X1 at *
  generalize clS sec = K at *
  have HOK := hide (fun k => rladF_ok K hX k)
  go_enter Try.func19, Try.ntmps19
  go_wp2_with fail
  refine (H1.out _).mono ?_
  rintro _ w0 ⟨rfl, O⟩
  clear H1
  obtain ⟨cap, W1, hcv, B, hb⟩ := conv_str w0 u
  rw [hu0] at B
  have c31 := B.c 31 (by omega)
  have f31 := B.fz 31 (by omega)
  have gl := B.lt
  have B2 := B.set (k := 31) (by omega) (bits .and .u8 (bt u 31) 127)
  have hbk := conv_back (f := mkF u) B2 cap (fun i _ => mkF_bd u i)
  rw [show bs ((List.range 32).map (mkF u)) = mkS u from rfl] at hbk
  have lo0 := O.size
  replace O := (O.trans (hb.mono O.size)).setCell (p := ⟨w0.heap.size, 31, none⟩) (by simp; omega) (.int .u8 (bits .and .u8 (bt u 31) 127))
  have HO := hide O
  have HK := hide hbk
  clear B2 B hb O lo0 hbk
  generalize mkS u = C at *
  go_upto_region 4 with fail
  have O := HO.out
  have hbk := HK.out
  clear HO HK hcv c31 f31 gl
  generalize W1.setCell ⟨w0.heap.size, 31, none⟩ (.int .u8 (bits .and .u8 (bt u 31) 127)) = w1 at *
  generalize w0.heap.size = gs at *
  refine wp_region_lit ?_
  refine wpList_value rfl (.slice (some ⟨gs, 0, none⟩) 32 cap) (fun _ => by kernel_rfl) ?_
  refine wpList_to rfl (.string C) w1 (run_conv_op _ rfl (by kernel_rfl) hbk) ?_
  clear hbk
  refine wpList_call rfl 12 #[.string C] (.agg (arr 16 (d16 X1))) (fun _ => by kernel_rfl) H2.out ?_
  intro w2 hb
  replace O := O.trans (hb.mono O.size)
  clear hb H2
  refine wpList_new rfl (fun g => .pointer (some ⟨g, 0, none⟩)) (.cells #[Value.int IntKind.u64 0, Value.int IntKind.u64 0, Value.int IntKind.u64 0, Value.int IntKind.u64 0, Value.int IntKind.u64 0, Value.int IntKind.u64 0, Value.int IntKind.u64 0, Value.int IntKind.u64 0, Value.int IntKind.u64 0, Value.int IntKind.u64 0, Value.int IntKind.u64 0, Value.int IntKind.u64 0, Value.int IntKind.u64 0, Value.int IntKind.u64 0, Value.int IntKind.u64 0, Value.int IntKind.u64 0] 35) (fun _ => by kernel_rfl) ?_
  intro g7 w3 R7 n1 hb
  replace R7 : Row w3 g7 35 16 (fun _ => 0) := R7
  have lo := O.size
  replace O := O.trans (hb.mono O.size)
  clear hb
  refine wpList_put rfl R7 (d16 X1) 35 _ _ rfl (by kernel_rfl) (by kernel_rfl) inf35 ?_
  intro w4 R7 ho hu
  replace O := hu _ _ (by omega) O
  clear ho hu
  have d7 : w.heap.size ≤ g7 := by omega
  clear n1 lo 
  refine wpList_nil ?_
  go_simp
  go_upto_region 5 with fail
  refine wp_region_lit ?_
  refine wpList_call rfl 33 #[.int .u32 1] (.agg (arr 16 (d16 1))) (fun _ => by kernel_rfl) H3.out ?_
  intro w5 hb
  replace R7 := R7.keep hb
  replace O := O.trans (hb.mono O.size)
  clear hb
  refine wpList_new rfl (fun g => .pointer (some ⟨g, 0, none⟩)) (.cells #[Value.int IntKind.u64 0, Value.int IntKind.u64 0, Value.int IntKind.u64 0, Value.int IntKind.u64 0, Value.int IntKind.u64 0, Value.int IntKind.u64 0, Value.int IntKind.u64 0, Value.int IntKind.u64 0, Value.int IntKind.u64 0, Value.int IntKind.u64 0, Value.int IntKind.u64 0, Value.int IntKind.u64 0, Value.int IntKind.u64 0, Value.int IntKind.u64 0, Value.int IntKind.u64 0, Value.int IntKind.u64 0] 35) (fun _ => by kernel_rfl) ?_
  intro g8 w6 R8 n1 hb
  replace R8 : Row w6 g8 35 16 (fun _ => 0) := R8
  have l7 := R7.lt
  have lo := O.size
  replace R7 := R7.keep hb
  replace O := O.trans (hb.mono O.size)
  clear hb
  refine wpList_put rfl R8 (d16 1) 35 _ _ rfl (by kernel_rfl) (by kernel_rfl) inf35 ?_
  intro w7 R8 ho hu
  replace R7 := R7.at_ (ho _ (by omega))
  replace O := hu _ _ (by omega) O
  clear ho hu
  have d8 : g7 < g8 := by omega
  clear n1 lo l7
  refine wpList_nil ?_
  go_simp
  go_upto_region 6 with fail
  refine wp_region_lit ?_
  refine wpList_value rfl (.agg (arr 16 (fun _ => 0))) (fun _ => by kernel_rfl) ?_
  refine wpList_new rfl (fun g => .pointer (some ⟨g, 0, none⟩)) (.cells #[Value.int IntKind.u64 0, Value.int IntKind.u64 0, Value.int IntKind.u64 0, Value.int IntKind.u64 0, Value.int IntKind.u64 0, Value.int IntKind.u64 0, Value.int IntKind.u64 0, Value.int IntKind.u64 0, Value.int IntKind.u64 0, Value.int IntKind.u64 0, Value.int IntKind.u64 0, Value.int IntKind.u64 0, Value.int IntKind.u64 0, Value.int IntKind.u64 0, Value.int IntKind.u64 0, Value.int IntKind.u64 0] 35) (fun _ => by kernel_rfl) ?_
  intro g9 w8 R9 n1 hb
  replace R9 : Row w8 g9 35 16 (fun _ => 0) := R9
  have l7 := R7.lt
  have l8 := R8.lt
  have lo := O.size
  replace R7 := R7.keep hb
  replace R8 := R8.keep hb
  replace O := O.trans (hb.mono O.size)
  clear hb
  refine wpList_put rfl R9 (fun _ => 0) 35 _ _ rfl (by kernel_rfl) (by kernel_rfl) inf35 ?_
  intro w9 R9 ho hu
  replace R7 := R7.at_ (ho _ (by omega))
  replace R8 := R8.at_ (ho _ (by omega))
  replace O := hu _ _ (by omega) O
  clear ho hu
  have d9 : g8 < g9 := by omega
  clear n1 lo l7 l8
  refine wpList_nil ?_
  go_simp
  go_upto_region 7 with fail
  refine wp_region_lit ?_
  refine wpList_part rfl 35 _ rfl g7 0 (by kernel_rfl) 16 (d16 X1) R7.all _ Try.underlying35 rfl inf35 ?_
  refine wpList_new rfl (fun g => .pointer (some ⟨g, 0, none⟩)) (.cells #[Value.int IntKind.u64 0, Value.int IntKind.u64 0, Value.int IntKind.u64 0, Value.int IntKind.u64 0, Value.int IntKind.u64 0, Value.int IntKind.u64 0, Value.int IntKind.u64 0, Value.int IntKind.u64 0, Value.int IntKind.u64 0, Value.int IntKind.u64 0, Value.int IntKind.u64 0, Value.int IntKind.u64 0, Value.int IntKind.u64 0, Value.int IntKind.u64 0, Value.int IntKind.u64 0, Value.int IntKind.u64 0] 35) (fun _ => by kernel_rfl) ?_
  intro g10 w10 R10 n1 hb
  replace R10 : Row w10 g10 35 16 (fun _ => 0) := R10
  have l7 := R7.lt
  have l8 := R8.lt
  have l9 := R9.lt
  have lo := O.size
  replace R7 := R7.keep hb
  replace R8 := R8.keep hb
  replace R9 := R9.keep hb
  replace O := O.trans (hb.mono O.size)
  clear hb
  refine wpList_put rfl R10 (d16 X1) 35 _ _ rfl (by kernel_rfl) (by kernel_rfl) inf35 ?_
  intro w11 R10 ho hu
  replace R7 := R7.at_ (ho _ (by omega))
  replace R8 := R8.at_ (ho _ (by omega))
  replace R9 := R9.at_ (ho _ (by omega))
  replace O := hu _ _ (by omega) O
  clear ho hu
  have d10 : g9 < g10 := by omega
  clear n1 lo l7 l8 l9
  refine wpList_nil ?_
  go_simp
  go_upto_region 8 with fail
  refine wp_region_lit ?_
  refine wpList_call rfl 33 #[.int .u32 1] (.agg (arr 16 (d16 1))) (fun _ => by kernel_rfl) H3.out ?_
  intro w12 hb
  replace R7 := R7.keep hb
  replace R8 := R8.keep hb
  replace R9 := R9.keep hb
  replace R10 := R10.keep hb
  replace O := O.trans (hb.mono O.size)
  clear hb
  refine wpList_new rfl (fun g => .pointer (some ⟨g, 0, none⟩)) (.cells #[Value.int IntKind.u64 0, Value.int IntKind.u64 0, Value.int IntKind.u64 0, Value.int IntKind.u64 0, Value.int IntKind.u64 0, Value.int IntKind.u64 0, Value.int IntKind.u64 0, Value.int IntKind.u64 0, Value.int IntKind.u64 0, Value.int IntKind.u64 0, Value.int IntKind.u64 0, Value.int IntKind.u64 0, Value.int IntKind.u64 0, Value.int IntKind.u64 0, Value.int IntKind.u64 0, Value.int IntKind.u64 0] 35) (fun _ => by kernel_rfl) ?_
  intro g11 w13 R11 n1 hb
  replace R11 : Row w13 g11 35 16 (fun _ => 0) := R11
  have l7 := R7.lt
  have l8 := R8.lt
  have l9 := R9.lt
  have l10 := R10.lt
  have lo := O.size
  replace R7 := R7.keep hb
  replace R8 := R8.keep hb
  replace R9 := R9.keep hb
  replace R10 := R10.keep hb
  replace O := O.trans (hb.mono O.size)
  clear hb
  refine wpList_put rfl R11 (d16 1) 35 _ _ rfl (by kernel_rfl) (by kernel_rfl) inf35 ?_
  intro w14 R11 ho hu
  replace R7 := R7.at_ (ho _ (by omega))
  replace R8 := R8.at_ (ho _ (by omega))
  replace R9 := R9.at_ (ho _ (by omega))
  replace R10 := R10.at_ (ho _ (by omega))
  replace O := hu _ _ (by omega) O
  clear ho hu
  have d11 : g10 < g11 := by omega
  clear n1 lo l7 l8 l9 l10
  refine wpList_nil ?_
  go_simp
  clear H3
  go_wp2_with fail
  go_loopw [12] (fun v wr => ∃ m : Nat, m ≤ 255 ∧ (∃ i : Int, i = (m : Int) - 1 ∧ v = .int .i64 i) ∧ Row wr g7 35 16 (d16 X1) ∧ Row wr g8 35 16 (d16 (rladF K X1 (255 - m)).x2) ∧ Row wr g9 35 16 (d16 (rladF K X1 (255 - m)).z2) ∧ Row wr g10 35 16 (d16 (rladF K X1 (255 - m)).x3) ∧ Row wr g11 35 16 (d16 (rladF K X1 (255 - m)).z3) ∧ Below w.heap.size w wr) (fun v _ => (intOf v + 1).toNat)
  case atStart => exact ⟨255, by omega, ⟨254, by omega, rfl⟩, R7, R8, R9.congr (fun i _ => by simp [rladF, d16]), R10, R11, O⟩
  case round =>
    clear R7 R8 R9 R10 R11 O
    obtain ⟨m, hm, ⟨i, hi, rfl⟩, R7, R8, R9, R10, R11, O⟩ := hrel
    rcases m with _ | p
    · have e : i = -1 := by omega
      subst e
      clear hi hm
      rw [Nat.sub_zero] at *
      have HR : Hid (∀ w, Calls Try.prog 37 #[.agg (arr 16 (d16 (rladF K X1 255).z2))] w fun r w' => r = .returned (.agg (arr 16 (d16 (pwm (rladF K X1 255).z2 (xbit 255 21) 255)))) ∧ Below w.heap.size w w') := hide fun w => by
        have h := rinv_any (d16 (rladF K X1 255).z2) w (d16_dig _ 16)
        rwa [dSP (HOK.out 255).z2] at h
      have HM : Hid (∀ w, Calls Try.prog 35 #[.agg (arr 16 (d16 (rladF K X1 255).x2)), .agg (arr 16 (d16 (pwm (rladF K X1 255).z2 (xbit 255 21) 255)))] w fun r w' => r = .returned (.agg (arr 16 (d16 ((rladF K X1 255).x2 * pwm (rladF K X1 255).z2 (xbit 255 21) 255 % Pm)))) ∧ Below w.heap.size w w') := hide fun w => by
        have h := rmul_any (d16 (rladF K X1 255).x2) (d16 (pwm (rladF K X1 255).z2 (xbit 255 21) 255)) w (d16_dig _ 16) (d16_dig _ 16)
        rwa [dSP (HOK.out 255).x2, dSP (pwm_bd _ _ _)] at h
      have HY : Hid (∀ w, Calls Try.prog 13 #[.agg (arr 16 (d16 ((rladF K X1 255).x2 * pwm (rladF K X1 255).z2 (xbit 255 21) 255 % Pm)))] w fun r w' => r = .returned (.string (bs (rb (d16 ((rladF K X1 255).x2 * pwm (rladF K X1 255).z2 (xbit 255 21) 255 % Pm)) 32))) ∧ Below w.heap.size w w') := hide fun w => rbytes_any _ w (d16_dig _ 16)
      generalize hB : bs (rb (d16 ((rladF K X1 255).x2 * pwm (rladF K X1 255).z2 (xbit 255 21) 255 % Pm)) 32) = B at HY
      have HB := hide hB
      clear hB
      generalize d16 ((rladF K X1 255).x2 * pwm (rladF K X1 255).z2 (xbit 255 21) 255 % Pm) = fv at HY HM
      generalize d16 (pwm (rladF K X1 255).z2 (xbit 255 21) 255) = fi at HM HR
      generalize d16 (rladF K X1 255).x2 = fx at HM R8
      generalize d16 (rladF K X1 255).z2 = fz at HR R9
      clear R7 R10 R11
      go_wp2_with fail
      have hne := KW.some wr
      have L8 : Hid (∀ w', (∃ s : KW wr, w' = s.w) → w'.rangeAt g8 0 (arr 16 fx).toList) := hide (by rintro _ ⟨s, rfl⟩; exact (R8.keep s.keep).all)
      have L9 : Hid (∀ w', (∃ s : KW wr, w' = s.w) → w'.rangeAt g9 0 (arr 16 fz).toList) := hide (by rintro _ ⟨s, rfl⟩; exact (R9.keep s.keep).all)
      have KK := hide O
      clear R8 R9 O
      refine wp_region_keep (by kernel_rfl) (by kernel_rfl) ?_
      go_big_quiet_want
      refine quiet_part 35 _ rfl g8 0 rfl 16 fx L8.out _ Try.underlying35 rfl inf35 ?_
      go_simp
      go_big_quiet_on
      go_big_quiet_want
      refine quiet_part 35 _ rfl g9 0 rfl 16 fz L9.out _ Try.underlying35 rfl inf35 ?_
      go_simp
      go_big_quiet_on
      go_big_quiet_step ((exact keep_of (HR.out _)))
      go_big_quiet_step ((exact keep_of (HM.out _)))
      go_big_quiet_step ((exact keep_of (HY.out _)))
      go_big_quiet_step (fail)
      refine wpQuiet_nil ?_
      intro t
      have hw := KK.out.trans (t.keep.mono KK.out.size)
      clear KK L8 L9 hne HR HM HY
      go_wp2
      go_ret
      exact ⟨by rw [HB.out]; rfl, hw⟩
    · have ei : i = (p : Int) := by omega
      subst ei
      clear hi
      have hp : p < 255 := by omega
      have e1 : 255 - (p + 1) = 254 - p := by omega
      have e2 : 255 - p = 254 - p + 1 := by omega
      rw [e1] at R8 R9 R10 R11
      have HOKk := HOK.out (254 - p)
      have HN : Hid (rladF K X1 (255 - p) = if bit K p = 0 then rstep X1 (rladF K X1 (254 - p)) else (rstep X1 (rladF K X1 (254 - p)).swap).swap) := hide (by
        rw [e2]
        show (if bit K (254 - (254 - p)) = 0 then _ else _) = _
        rw [show 254 - (254 - p) = p by omega])
      generalize rladF K X1 (254 - p) = q at *
      go_upto_region 12 with fail
      refine plain_cut (fun a0 a' w' => w' = wr ∧ ∃ u44 u45 u46 u47 u48 u49 u50 u51 u52 u53 : Value, a' = ((((((((((a0.put (some 44) u44).put (some 45) u45).put (some 46) u46).put (some 47) u47).put (some 48) u48).put (some 49) u49).put (some 50) u50).put (some 51) u51).put (some 52) u52).put (some 53) u53).put (some 13) (.bool (bit K p == 1))) ?_ ?_
      · clear R7 R8 R9 R10 R11 O HOKk HN HOK
        have a1 : (0 : Int) ≤ (p : Int) / 8 := by omega
        have a2 : (p : Int) / 8 < (K.size : Int) := by omega
        have a4 : p / 8 < K.size := by omega
        have a5 := bt_at K (p / 8) a4
        have a6 := bt_bd K (p / 8)
        have HB := hide (show bit K p = bt K (p / 8) / 2 ^ (p % 8) % 2 from rfl)
        rcases (show p % 8 = 0 ∨ p % 8 = 1 ∨ p % 8 = 2 ∨ p % 8 = 3 ∨ p % 8 = 4 ∨ p % 8 = 5 ∨ p % 8 = 6 ∨ p % 8 = 7 by omega) with h8 | h8 | h8 | h8 | h8 | h8 | h8 | h8
        · have a3 : (p : Int) % 8 = 0 := by omega
          have eb : bits BinOp.and IntKind.u8 (bt K (p / 8)) 1 = bt K (p / 8) % 2 := and1u (by omega) (by omega)
          have HV := hide (show bit K p = bt K (p / 8) % 2 by rw [HB.out, h8]; simp)
          clear h8 HB
          rw [HV.out]
          clear HV
          go_wp2
        · have a3 : (p : Int) % 8 = 1 := by omega
          have eb : bits BinOp.and IntKind.u8 (bt K (p / 8) / 2) 1 = bt K (p / 8) / 2 % 2 := and1u (by omega) (by omega)
          have HV := hide (show bit K p = bt K (p / 8) / 2 % 2 by rw [HB.out, h8]; simp)
          clear h8 HB
          rw [HV.out]
          clear HV
          go_wp2
        · have a3 : (p : Int) % 8 = 2 := by omega
          have eb : bits BinOp.and IntKind.u8 (bt K (p / 8) / 4) 1 = bt K (p / 8) / 4 % 2 := and1u (by omega) (by omega)
          have HV := hide (show bit K p = bt K (p / 8) / 4 % 2 by rw [HB.out, h8]; simp)
          clear h8 HB
          rw [HV.out]
          clear HV
          go_wp2
        · have a3 : (p : Int) % 8 = 3 := by omega
          have eb : bits BinOp.and IntKind.u8 (bt K (p / 8) / 8) 1 = bt K (p / 8) / 8 % 2 := and1u (by omega) (by omega)
          have HV := hide (show bit K p = bt K (p / 8) / 8 % 2 by rw [HB.out, h8]; simp)
          clear h8 HB
          rw [HV.out]
          clear HV
          go_wp2
        · have a3 : (p : Int) % 8 = 4 := by omega
          have eb : bits BinOp.and IntKind.u8 (bt K (p / 8) / 16) 1 = bt K (p / 8) / 16 % 2 := and1u (by omega) (by omega)
          have HV := hide (show bit K p = bt K (p / 8) / 16 % 2 by rw [HB.out, h8]; simp)
          clear h8 HB
          rw [HV.out]
          clear HV
          go_wp2
        · have a3 : (p : Int) % 8 = 5 := by omega
          have eb : bits BinOp.and IntKind.u8 (bt K (p / 8) / 32) 1 = bt K (p / 8) / 32 % 2 := and1u (by omega) (by omega)
          have HV := hide (show bit K p = bt K (p / 8) / 32 % 2 by rw [HB.out, h8]; simp)
          clear h8 HB
          rw [HV.out]
          clear HV
          go_wp2
        · have a3 : (p : Int) % 8 = 6 := by omega
          have eb : bits BinOp.and IntKind.u8 (bt K (p / 8) / 64) 1 = bt K (p / 8) / 64 % 2 := and1u (by omega) (by omega)
          have HV := hide (show bit K p = bt K (p / 8) / 64 % 2 by rw [HB.out, h8]; simp)
          clear h8 HB
          rw [HV.out]
          clear HV
          go_wp2
        · have a3 : (p : Int) % 8 = 7 := by omega
          have eb : bits BinOp.and IntKind.u8 (bt K (p / 8) / 128) 1 = bt K (p / 8) / 128 % 2 := and1u (by omega) (by omega)
          have HV := hide (show bit K p = bt K (p / 8) / 128 % 2 by rw [HB.out, h8]; simp)
          clear h8 HB
          rw [HV.out]
          clear HV
          go_wp2
      · rintro _ w50 ⟨hwr, u44, u45, u46, u47, u48, u49, u50, u51, u52, u53, rfl⟩
        subst hwr
        have hw7 : w.heap.size ≤ g7 := d7
        rcases bit_two K p with hbit | hbit
        · rw [hbit] at HN ⊢
          rw [show ((0 : Int) == 1) = false from rfl]
          obtain ⟨a, aa, d, dd, e, u1, da, u2, cb, s, t, t2, k1, k2, k3, F0⟩ := rf_of hX HOKk.x2 HOKk.z2 HOKk.x3 HOKk.z3
          have F := hide F0
          have T1 : Hid (d16 (rladF K X1 (255 - p)).x2 = d16 (rstep X1 ⟨q.x2, q.z2, q.x3, q.z3⟩).x2) := hide (by rw [HN.out]; rfl)
          have T2 : Hid (d16 (rladF K X1 (255 - p)).z2 = d16 (rstep X1 ⟨q.x2, q.z2, q.x3, q.z3⟩).z2) := hide (by rw [HN.out]; rfl)
          have T3 : Hid (d16 (rladF K X1 (255 - p)).x3 = d16 (rstep X1 ⟨q.x2, q.z2, q.x3, q.z3⟩).x3) := hide (by rw [HN.out]; rfl)
          have T4 : Hid (d16 (rladF K X1 (255 - p)).z3 = d16 (rstep X1 ⟨q.x2, q.z2, q.x3, q.z3⟩).z3) := hide (by rw [HN.out]; rfl)
          clear F0 HN HOKk hbit
          generalize d16 (rstep X1 ⟨q.x2, q.z2, q.x3, q.z3⟩).x2 = nx2 at F T1
          generalize d16 (rstep X1 ⟨q.x2, q.z2, q.x3, q.z3⟩).z2 = nz2 at F T2
          generalize d16 (rstep X1 ⟨q.x2, q.z2, q.x3, q.z3⟩).x3 = nx3 at F T3
          generalize d16 (rstep X1 ⟨q.x2, q.z2, q.x3, q.z3⟩).z3 = nz3 at F T4
          generalize hx1 : d16 X1 = x1 at F R7
          generalize d16 q.x2 = x2 at F R8
          generalize d16 q.z2 = z2 at F R9
          generalize d16 q.x3 = x3 at F R10
          generalize d16 q.z3 = z3 at F R11
          have HX1 := hide hx1
          clear hx1
          go_simp
          go_upto_region 16 with fail
          refine wp_region_lit ?_
          refine wpList_part rfl 35 _ rfl g8 0 (by kernel_rfl) 16 x2 R8.all _ Try.underlying35 rfl inf35 ?_
          refine wpList_part rfl 35 _ rfl g9 0 (by kernel_rfl) 16 z2 R9.all _ Try.underlying35 rfl inf35 ?_
          refine wpList_call rfl 34 #[.agg (arr 16 x2), .agg (arr 16 z2)] (.agg (arr 16 a)) (fun _ => by kernel_rfl) F.out.h1 ?_
          intro w51 hb
          replace R7 := R7.keep hb
          replace R8 := R8.keep hb
          replace R9 := R9.keep hb
          replace R10 := R10.keep hb
          replace R11 := R11.keep hb
          replace O := O.trans (hb.mono O.size)
          clear hb
          refine wpList_new rfl (fun g => .pointer (some ⟨g, 0, none⟩)) (.cells #[Value.int IntKind.u64 0, Value.int IntKind.u64 0, Value.int IntKind.u64 0, Value.int IntKind.u64 0, Value.int IntKind.u64 0, Value.int IntKind.u64 0, Value.int IntKind.u64 0, Value.int IntKind.u64 0, Value.int IntKind.u64 0, Value.int IntKind.u64 0, Value.int IntKind.u64 0, Value.int IntKind.u64 0, Value.int IntKind.u64 0, Value.int IntKind.u64 0, Value.int IntKind.u64 0, Value.int IntKind.u64 0] 35) (fun _ => by kernel_rfl) ?_
          intro g14 w52 R14 n1 hb
          replace R14 : Row w52 g14 35 16 (fun _ => 0) := R14
          have l7 := R7.lt
          have l8 := R8.lt
          have l9 := R9.lt
          have l10 := R10.lt
          have l11 := R11.lt
          have lo := O.size
          replace R7 := R7.keep hb
          replace R8 := R8.keep hb
          replace R9 := R9.keep hb
          replace R10 := R10.keep hb
          replace R11 := R11.keep hb
          replace O := O.trans (hb.mono O.size)
          clear hb
          refine wpList_put rfl R14 a 35 _ _ rfl (by kernel_rfl) (by kernel_rfl) inf35 ?_
          intro w53 R14 ho hu
          replace R7 := R7.at_ (ho _ (by omega))
          replace R8 := R8.at_ (ho _ (by omega))
          replace R9 := R9.at_ (ho _ (by omega))
          replace R10 := R10.at_ (ho _ (by omega))
          replace R11 := R11.at_ (ho _ (by omega))
          replace O := hu _ _ (by omega) O
          clear ho hu
          have d14 : g11 < g14 := by omega
          clear n1 lo l7 l8 l9 l10 l11
          refine wpList_nil ?_
          go_simp
          go_upto_region 17 with fail
          refine wp_region_lit ?_
          refine wpList_part rfl 35 _ rfl g14 0 (by kernel_rfl) 16 a R14.all _ Try.underlying35 rfl inf35 ?_
          refine wpList_part rfl 35 _ rfl g14 0 (by kernel_rfl) 16 a R14.all _ Try.underlying35 rfl inf35 ?_
          refine wpList_call rfl 35 #[.agg (arr 16 a), .agg (arr 16 a)] (.agg (arr 16 aa)) (fun _ => by kernel_rfl) F.out.h2 ?_
          intro w54 hb
          replace R7 := R7.keep hb
          replace R8 := R8.keep hb
          replace R9 := R9.keep hb
          replace R10 := R10.keep hb
          replace R11 := R11.keep hb
          replace R14 := R14.keep hb
          replace O := O.trans (hb.mono O.size)
          clear hb
          refine wpList_new rfl (fun g => .pointer (some ⟨g, 0, none⟩)) (.cells #[Value.int IntKind.u64 0, Value.int IntKind.u64 0, Value.int IntKind.u64 0, Value.int IntKind.u64 0, Value.int IntKind.u64 0, Value.int IntKind.u64 0, Value.int IntKind.u64 0, Value.int IntKind.u64 0, Value.int IntKind.u64 0, Value.int IntKind.u64 0, Value.int IntKind.u64 0, Value.int IntKind.u64 0, Value.int IntKind.u64 0, Value.int IntKind.u64 0, Value.int IntKind.u64 0, Value.int IntKind.u64 0] 35) (fun _ => by kernel_rfl) ?_
          intro g15 w55 R15 n1 hb
          replace R15 : Row w55 g15 35 16 (fun _ => 0) := R15
          have l7 := R7.lt
          have l8 := R8.lt
          have l9 := R9.lt
          have l10 := R10.lt
          have l11 := R11.lt
          have l14 := R14.lt
          have lo := O.size
          replace R7 := R7.keep hb
          replace R8 := R8.keep hb
          replace R9 := R9.keep hb
          replace R10 := R10.keep hb
          replace R11 := R11.keep hb
          replace R14 := R14.keep hb
          replace O := O.trans (hb.mono O.size)
          clear hb
          refine wpList_put rfl R15 aa 35 _ _ rfl (by kernel_rfl) (by kernel_rfl) inf35 ?_
          intro w56 R15 ho hu
          replace R7 := R7.at_ (ho _ (by omega))
          replace R8 := R8.at_ (ho _ (by omega))
          replace R9 := R9.at_ (ho _ (by omega))
          replace R10 := R10.at_ (ho _ (by omega))
          replace R11 := R11.at_ (ho _ (by omega))
          replace R14 := R14.at_ (ho _ (by omega))
          replace O := hu _ _ (by omega) O
          clear ho hu
          have d15 : g11 < g15 := by omega
          clear n1 lo l7 l8 l9 l10 l11 l14
          refine wpList_nil ?_
          go_simp
          go_upto_region 18 with fail
          refine wp_region_lit ?_
          refine wpList_part rfl 35 _ rfl g8 0 (by kernel_rfl) 16 x2 R8.all _ Try.underlying35 rfl inf35 ?_
          refine wpList_part rfl 35 _ rfl g9 0 (by kernel_rfl) 16 z2 R9.all _ Try.underlying35 rfl inf35 ?_
          refine wpList_call rfl 36 #[.agg (arr 16 x2), .agg (arr 16 z2)] (.agg (arr 16 d)) (fun _ => by kernel_rfl) F.out.h3 ?_
          intro w57 hb
          replace R7 := R7.keep hb
          replace R8 := R8.keep hb
          replace R9 := R9.keep hb
          replace R10 := R10.keep hb
          replace R11 := R11.keep hb
          replace R14 := R14.keep hb
          replace R15 := R15.keep hb
          replace O := O.trans (hb.mono O.size)
          clear hb
          refine wpList_new rfl (fun g => .pointer (some ⟨g, 0, none⟩)) (.cells #[Value.int IntKind.u64 0, Value.int IntKind.u64 0, Value.int IntKind.u64 0, Value.int IntKind.u64 0, Value.int IntKind.u64 0, Value.int IntKind.u64 0, Value.int IntKind.u64 0, Value.int IntKind.u64 0, Value.int IntKind.u64 0, Value.int IntKind.u64 0, Value.int IntKind.u64 0, Value.int IntKind.u64 0, Value.int IntKind.u64 0, Value.int IntKind.u64 0, Value.int IntKind.u64 0, Value.int IntKind.u64 0] 35) (fun _ => by kernel_rfl) ?_
          intro g16 w58 R16 n1 hb
          replace R16 : Row w58 g16 35 16 (fun _ => 0) := R16
          have l7 := R7.lt
          have l8 := R8.lt
          have l9 := R9.lt
          have l10 := R10.lt
          have l11 := R11.lt
          have l14 := R14.lt
          have l15 := R15.lt
          have lo := O.size
          replace R7 := R7.keep hb
          replace R8 := R8.keep hb
          replace R9 := R9.keep hb
          replace R10 := R10.keep hb
          replace R11 := R11.keep hb
          replace R14 := R14.keep hb
          replace R15 := R15.keep hb
          replace O := O.trans (hb.mono O.size)
          clear hb
          refine wpList_put rfl R16 d 35 _ _ rfl (by kernel_rfl) (by kernel_rfl) inf35 ?_
          intro w59 R16 ho hu
          replace R7 := R7.at_ (ho _ (by omega))
          replace R8 := R8.at_ (ho _ (by omega))
          replace R9 := R9.at_ (ho _ (by omega))
          replace R10 := R10.at_ (ho _ (by omega))
          replace R11 := R11.at_ (ho _ (by omega))
          replace R14 := R14.at_ (ho _ (by omega))
          replace R15 := R15.at_ (ho _ (by omega))
          replace O := hu _ _ (by omega) O
          clear ho hu
          have d16 : g11 < g16 := by omega
          clear n1 lo l7 l8 l9 l10 l11 l14 l15
          refine wpList_nil ?_
          go_simp
          go_upto_region 19 with fail
          refine wp_region_lit ?_
          refine wpList_part rfl 35 _ rfl g16 0 (by kernel_rfl) 16 d R16.all _ Try.underlying35 rfl inf35 ?_
          refine wpList_part rfl 35 _ rfl g16 0 (by kernel_rfl) 16 d R16.all _ Try.underlying35 rfl inf35 ?_
          refine wpList_call rfl 35 #[.agg (arr 16 d), .agg (arr 16 d)] (.agg (arr 16 dd)) (fun _ => by kernel_rfl) F.out.h4 ?_
          intro w60 hb
          replace R7 := R7.keep hb
          replace R8 := R8.keep hb
          replace R9 := R9.keep hb
          replace R10 := R10.keep hb
          replace R11 := R11.keep hb
          replace R14 := R14.keep hb
          replace R15 := R15.keep hb
          replace R16 := R16.keep hb
          replace O := O.trans (hb.mono O.size)
          clear hb
          refine wpList_new rfl (fun g => .pointer (some ⟨g, 0, none⟩)) (.cells #[Value.int IntKind.u64 0, Value.int IntKind.u64 0, Value.int IntKind.u64 0, Value.int IntKind.u64 0, Value.int IntKind.u64 0, Value.int IntKind.u64 0, Value.int IntKind.u64 0, Value.int IntKind.u64 0, Value.int IntKind.u64 0, Value.int IntKind.u64 0, Value.int IntKind.u64 0, Value.int IntKind.u64 0, Value.int IntKind.u64 0, Value.int IntKind.u64 0, Value.int IntKind.u64 0, Value.int IntKind.u64 0] 35) (fun _ => by kernel_rfl) ?_
          intro g17 w61 R17 n1 hb
          replace R17 : Row w61 g17 35 16 (fun _ => 0) := R17
          have l7 := R7.lt
          have l8 := R8.lt
          have l9 := R9.lt
          have l10 := R10.lt
          have l11 := R11.lt
          have l14 := R14.lt
          have l15 := R15.lt
          have l16 := R16.lt
          have lo := O.size
          replace R7 := R7.keep hb
          replace R8 := R8.keep hb
          replace R9 := R9.keep hb
          replace R10 := R10.keep hb
          replace R11 := R11.keep hb
          replace R14 := R14.keep hb
          replace R15 := R15.keep hb
          replace R16 := R16.keep hb
          replace O := O.trans (hb.mono O.size)
          clear hb
          refine wpList_put rfl R17 dd 35 _ _ rfl (by kernel_rfl) (by kernel_rfl) inf35 ?_
          intro w62 R17 ho hu
          replace R7 := R7.at_ (ho _ (by omega))
          replace R8 := R8.at_ (ho _ (by omega))
          replace R9 := R9.at_ (ho _ (by omega))
          replace R10 := R10.at_ (ho _ (by omega))
          replace R11 := R11.at_ (ho _ (by omega))
          replace R14 := R14.at_ (ho _ (by omega))
          replace R15 := R15.at_ (ho _ (by omega))
          replace R16 := R16.at_ (ho _ (by omega))
          replace O := hu _ _ (by omega) O
          clear ho hu
          have d17 : g11 < g17 := by omega
          clear n1 lo l7 l8 l9 l10 l11 l14 l15 l16
          refine wpList_nil ?_
          go_simp
          go_upto_region 20 with fail
          refine wp_region_lit ?_
          refine wpList_part rfl 35 _ rfl g15 0 (by kernel_rfl) 16 aa R15.all _ Try.underlying35 rfl inf35 ?_
          refine wpList_part rfl 35 _ rfl g17 0 (by kernel_rfl) 16 dd R17.all _ Try.underlying35 rfl inf35 ?_
          refine wpList_call rfl 36 #[.agg (arr 16 aa), .agg (arr 16 dd)] (.agg (arr 16 e)) (fun _ => by kernel_rfl) F.out.h5 ?_
          intro w63 hb
          replace R7 := R7.keep hb
          replace R8 := R8.keep hb
          replace R9 := R9.keep hb
          replace R10 := R10.keep hb
          replace R11 := R11.keep hb
          replace R14 := R14.keep hb
          replace R15 := R15.keep hb
          replace R16 := R16.keep hb
          replace R17 := R17.keep hb
          replace O := O.trans (hb.mono O.size)
          clear hb
          refine wpList_new rfl (fun g => .pointer (some ⟨g, 0, none⟩)) (.cells #[Value.int IntKind.u64 0, Value.int IntKind.u64 0, Value.int IntKind.u64 0, Value.int IntKind.u64 0, Value.int IntKind.u64 0, Value.int IntKind.u64 0, Value.int IntKind.u64 0, Value.int IntKind.u64 0, Value.int IntKind.u64 0, Value.int IntKind.u64 0, Value.int IntKind.u64 0, Value.int IntKind.u64 0, Value.int IntKind.u64 0, Value.int IntKind.u64 0, Value.int IntKind.u64 0, Value.int IntKind.u64 0] 35) (fun _ => by kernel_rfl) ?_
          intro g18 w64 R18 n1 hb
          replace R18 : Row w64 g18 35 16 (fun _ => 0) := R18
          have l7 := R7.lt
          have l8 := R8.lt
          have l9 := R9.lt
          have l10 := R10.lt
          have l11 := R11.lt
          have l14 := R14.lt
          have l15 := R15.lt
          have l16 := R16.lt
          have l17 := R17.lt
          have lo := O.size
          replace R7 := R7.keep hb
          replace R8 := R8.keep hb
          replace R9 := R9.keep hb
          replace R10 := R10.keep hb
          replace R11 := R11.keep hb
          replace R14 := R14.keep hb
          replace R15 := R15.keep hb
          replace R16 := R16.keep hb
          replace R17 := R17.keep hb
          replace O := O.trans (hb.mono O.size)
          clear hb
          refine wpList_put rfl R18 e 35 _ _ rfl (by kernel_rfl) (by kernel_rfl) inf35 ?_
          intro w65 R18 ho hu
          replace R7 := R7.at_ (ho _ (by omega))
          replace R8 := R8.at_ (ho _ (by omega))
          replace R9 := R9.at_ (ho _ (by omega))
          replace R10 := R10.at_ (ho _ (by omega))
          replace R11 := R11.at_ (ho _ (by omega))
          replace R14 := R14.at_ (ho _ (by omega))
          replace R15 := R15.at_ (ho _ (by omega))
          replace R16 := R16.at_ (ho _ (by omega))
          replace R17 := R17.at_ (ho _ (by omega))
          replace O := hu _ _ (by omega) O
          clear ho hu
          have d18 : g11 < g18 := by omega
          clear n1 lo l7 l8 l9 l10 l11 l14 l15 l16 l17
          refine wpList_nil ?_
          go_simp
          go_upto_region 21 with fail
          have L10 : Hid (∀ s : KW w65, s.w.rangeAt g10 0 (arr 16 x3).toList) := hide fun s => (R10.keep s.keep).all
          have L11 : Hid (∀ s : KW w65, s.w.rangeAt g11 0 (arr 16 z3).toList) := hide fun s => (R11.keep s.keep).all
          have L14 : Hid (∀ s : KW w65, s.w.rangeAt g14 0 (arr 16 a).toList) := hide fun s => (R14.keep s.keep).all
          refine wp_region_keep_alloc (Z := .cells #[Value.int IntKind.u64 0, Value.int IntKind.u64 0, Value.int IntKind.u64 0, Value.int IntKind.u64 0, Value.int IntKind.u64 0, Value.int IntKind.u64 0, Value.int IntKind.u64 0, Value.int IntKind.u64 0, Value.int IntKind.u64 0, Value.int IntKind.u64 0, Value.int IntKind.u64 0, Value.int IntKind.u64 0, Value.int IntKind.u64 0, Value.int IntKind.u64 0, Value.int IntKind.u64 0, Value.int IntKind.u64 0] 35) 5 (by kernel_rfl) (by kernel_rfl) rfl rfl (fun _ _ => by kernel_rfl) ?_
          simp only [List.take_succ_cons, List.take_zero, List.drop_succ_cons, List.drop_zero]
          refine wpK_load rfl 35 _ rfl g10 0 (by kernel_rfl) 16 x3 L10.out _ Try.underlying35 rfl inf35 ?_
          refine wpK_load rfl 35 _ rfl g11 0 (by kernel_rfl) 16 z3 L11.out _ Try.underlying35 rfl inf35 ?_
          refine wpK_call 36 #[.agg (arr 16 x3), .agg (arr 16 z3)] (.agg (arr 16 u1)) rfl (fun _ => by kernel_rfl) F.out.h6 ?_
          refine wpK_load rfl 35 _ rfl g14 0 (by kernel_rfl) 16 a L14.out _ Try.underlying35 rfl inf35 ?_
          refine wpK_call 35 #[.agg (arr 16 u1), .agg (arr 16 a)] (.agg (arr 16 da)) rfl (fun _ => by kernel_rfl) F.out.h7 ?_
          refine wpK_nil ?_
          intro w66 g19 hb n1 r1 a2 ha2
          simp [go_sem] at ha2
          subst ha2
          clear L10 L11 L14
          have l7 := R7.lt
          have l8 := R8.lt
          have l9 := R9.lt
          have l10 := R10.lt
          have l11 := R11.lt
          have l14 := R14.lt
          have l15 := R15.lt
          have l16 := R16.lt
          have l17 := R17.lt
          have l18 := R18.lt
          have lo := O.size
          replace R7 := R7.keep hb
          replace R8 := R8.keep hb
          replace R9 := R9.keep hb
          replace R10 := R10.keep hb
          replace R11 := R11.keep hb
          replace R14 := R14.keep hb
          replace R15 := R15.keep hb
          replace R16 := R16.keep hb
          replace R17 := R17.keep hb
          replace R18 := R18.keep hb
          replace O := O.trans (hb.mono O.size)
          clear hb
          have R19 : Row w66 g19 35 16 (fun _ => 0) := r1
          clear r1
          refine wpList_put rfl R19 da 35 _ _ rfl (by kernel_rfl) (by kernel_rfl) inf35 ?_
          intro w67 R19 ho hu
          replace R7 := R7.at_ (ho _ (by omega))
          replace R8 := R8.at_ (ho _ (by omega))
          replace R9 := R9.at_ (ho _ (by omega))
          replace R10 := R10.at_ (ho _ (by omega))
          replace R11 := R11.at_ (ho _ (by omega))
          replace R14 := R14.at_ (ho _ (by omega))
          replace R15 := R15.at_ (ho _ (by omega))
          replace R16 := R16.at_ (ho _ (by omega))
          replace R17 := R17.at_ (ho _ (by omega))
          replace R18 := R18.at_ (ho _ (by omega))
          replace O := hu _ _ (by omega) O
          clear ho hu
          have d19 : g11 < g19 := by omega
          clear n1 lo l7 l8 l9 l10 l11 l14 l15 l16 l17 l18
          refine wpList_nil ?_
          go_simp
          go_upto_region 22 with fail
          have L10 : Hid (∀ s : KW w67, s.w.rangeAt g10 0 (arr 16 x3).toList) := hide fun s => (R10.keep s.keep).all
          have L11 : Hid (∀ s : KW w67, s.w.rangeAt g11 0 (arr 16 z3).toList) := hide fun s => (R11.keep s.keep).all
          have L16 : Hid (∀ s : KW w67, s.w.rangeAt g16 0 (arr 16 d).toList) := hide fun s => (R16.keep s.keep).all
          refine wp_region_keep_alloc (Z := .cells #[Value.int IntKind.u64 0, Value.int IntKind.u64 0, Value.int IntKind.u64 0, Value.int IntKind.u64 0, Value.int IntKind.u64 0, Value.int IntKind.u64 0, Value.int IntKind.u64 0, Value.int IntKind.u64 0, Value.int IntKind.u64 0, Value.int IntKind.u64 0, Value.int IntKind.u64 0, Value.int IntKind.u64 0, Value.int IntKind.u64 0, Value.int IntKind.u64 0, Value.int IntKind.u64 0, Value.int IntKind.u64 0] 35) 5 (by kernel_rfl) (by kernel_rfl) rfl rfl (fun _ _ => by kernel_rfl) ?_
          simp only [List.take_succ_cons, List.take_zero, List.drop_succ_cons, List.drop_zero]
          refine wpK_load rfl 35 _ rfl g10 0 (by kernel_rfl) 16 x3 L10.out _ Try.underlying35 rfl inf35 ?_
          refine wpK_load rfl 35 _ rfl g11 0 (by kernel_rfl) 16 z3 L11.out _ Try.underlying35 rfl inf35 ?_
          refine wpK_call 34 #[.agg (arr 16 x3), .agg (arr 16 z3)] (.agg (arr 16 u2)) rfl (fun _ => by kernel_rfl) F.out.h8 ?_
          refine wpK_load rfl 35 _ rfl g16 0 (by kernel_rfl) 16 d L16.out _ Try.underlying35 rfl inf35 ?_
          refine wpK_call 35 #[.agg (arr 16 u2), .agg (arr 16 d)] (.agg (arr 16 cb)) rfl (fun _ => by kernel_rfl) F.out.h9 ?_
          refine wpK_nil ?_
          intro w68 g20 hb n1 r1 a2 ha2
          simp [go_sem] at ha2
          subst ha2
          clear L10 L11 L16
          have l7 := R7.lt
          have l8 := R8.lt
          have l9 := R9.lt
          have l10 := R10.lt
          have l11 := R11.lt
          have l14 := R14.lt
          have l15 := R15.lt
          have l16 := R16.lt
          have l17 := R17.lt
          have l18 := R18.lt
          have l19 := R19.lt
          have lo := O.size
          replace R7 := R7.keep hb
          replace R8 := R8.keep hb
          replace R9 := R9.keep hb
          replace R10 := R10.keep hb
          replace R11 := R11.keep hb
          replace R14 := R14.keep hb
          replace R15 := R15.keep hb
          replace R16 := R16.keep hb
          replace R17 := R17.keep hb
          replace R18 := R18.keep hb
          replace R19 := R19.keep hb
          replace O := O.trans (hb.mono O.size)
          clear hb
          have R20 : Row w68 g20 35 16 (fun _ => 0) := r1
          clear r1
          refine wpList_put rfl R20 cb 35 _ _ rfl (by kernel_rfl) (by kernel_rfl) inf35 ?_
          intro w69 R20 ho hu
          replace R7 := R7.at_ (ho _ (by omega))
          replace R8 := R8.at_ (ho _ (by omega))
          replace R9 := R9.at_ (ho _ (by omega))
          replace R10 := R10.at_ (ho _ (by omega))
          replace R11 := R11.at_ (ho _ (by omega))
          replace R14 := R14.at_ (ho _ (by omega))
          replace R15 := R15.at_ (ho _ (by omega))
          replace R16 := R16.at_ (ho _ (by omega))
          replace R17 := R17.at_ (ho _ (by omega))
          replace R18 := R18.at_ (ho _ (by omega))
          replace R19 := R19.at_ (ho _ (by omega))
          replace O := hu _ _ (by omega) O
          clear ho hu
          have d20 : g11 < g20 := by omega
          clear n1 lo l7 l8 l9 l10 l11 l14 l15 l16 l17 l18 l19
          refine wpList_nil ?_
          go_simp
          clear R14 R16
          go_upto_region 23 with fail
          refine wp_region_lit ?_
          refine wpList_part rfl 35 _ rfl g19 0 (by kernel_rfl) 16 da R19.all _ Try.underlying35 rfl inf35 ?_
          refine wpList_part rfl 35 _ rfl g20 0 (by kernel_rfl) 16 cb R20.all _ Try.underlying35 rfl inf35 ?_
          refine wpList_call rfl 34 #[.agg (arr 16 da), .agg (arr 16 cb)] (.agg (arr 16 s)) (fun _ => by kernel_rfl) F.out.h10 ?_
          intro w70 hb
          replace R7 := R7.keep hb
          replace R8 := R8.keep hb
          replace R9 := R9.keep hb
          replace R10 := R10.keep hb
          replace R11 := R11.keep hb
          replace R15 := R15.keep hb
          replace R17 := R17.keep hb
          replace R18 := R18.keep hb
          replace R19 := R19.keep hb
          replace R20 := R20.keep hb
          replace O := O.trans (hb.mono O.size)
          clear hb
          refine wpList_new rfl (fun g => .pointer (some ⟨g, 0, none⟩)) (.cells #[Value.int IntKind.u64 0, Value.int IntKind.u64 0, Value.int IntKind.u64 0, Value.int IntKind.u64 0, Value.int IntKind.u64 0, Value.int IntKind.u64 0, Value.int IntKind.u64 0, Value.int IntKind.u64 0, Value.int IntKind.u64 0, Value.int IntKind.u64 0, Value.int IntKind.u64 0, Value.int IntKind.u64 0, Value.int IntKind.u64 0, Value.int IntKind.u64 0, Value.int IntKind.u64 0, Value.int IntKind.u64 0] 35) (fun _ => by kernel_rfl) ?_
          intro g21 w71 R21 n1 hb
          replace R21 : Row w71 g21 35 16 (fun _ => 0) := R21
          have l7 := R7.lt
          have l8 := R8.lt
          have l9 := R9.lt
          have l10 := R10.lt
          have l11 := R11.lt
          have l15 := R15.lt
          have l17 := R17.lt
          have l18 := R18.lt
          have l19 := R19.lt
          have l20 := R20.lt
          have lo := O.size
          replace R7 := R7.keep hb
          replace R8 := R8.keep hb
          replace R9 := R9.keep hb
          replace R10 := R10.keep hb
          replace R11 := R11.keep hb
          replace R15 := R15.keep hb
          replace R17 := R17.keep hb
          replace R18 := R18.keep hb
          replace R19 := R19.keep hb
          replace R20 := R20.keep hb
          replace O := O.trans (hb.mono O.size)
          clear hb
          refine wpList_put rfl R21 s 35 _ _ rfl (by kernel_rfl) (by kernel_rfl) inf35 ?_
          intro w72 R21 ho hu
          replace R7 := R7.at_ (ho _ (by omega))
          replace R8 := R8.at_ (ho _ (by omega))
          replace R9 := R9.at_ (ho _ (by omega))
          replace R10 := R10.at_ (ho _ (by omega))
          replace R11 := R11.at_ (ho _ (by omega))
          replace R15 := R15.at_ (ho _ (by omega))
          replace R17 := R17.at_ (ho _ (by omega))
          replace R18 := R18.at_ (ho _ (by omega))
          replace R19 := R19.at_ (ho _ (by omega))
          replace R20 := R20.at_ (ho _ (by omega))
          replace O := hu _ _ (by omega) O
          clear ho hu
          have d21 : g11 < g21 := by omega
          clear n1 lo l7 l8 l9 l10 l11 l15 l17 l18 l19 l20
          refine wpList_nil ?_
          go_simp
          go_upto_region 24 with fail
          refine wp_region_lit ?_
          refine wpList_part rfl 35 _ rfl g21 0 (by kernel_rfl) 16 s R21.all _ Try.underlying35 rfl inf35 ?_
          refine wpList_part rfl 35 _ rfl g21 0 (by kernel_rfl) 16 s R21.all _ Try.underlying35 rfl inf35 ?_
          refine wpList_call rfl 35 #[.agg (arr 16 s), .agg (arr 16 s)] (.agg (arr 16 nx3)) (fun _ => by kernel_rfl) F.out.h11 ?_
          intro w73 hb
          replace R7 := R7.keep hb
          replace R8 := R8.keep hb
          replace R9 := R9.keep hb
          replace R10 := R10.keep hb
          replace R11 := R11.keep hb
          replace R15 := R15.keep hb
          replace R17 := R17.keep hb
          replace R18 := R18.keep hb
          replace R19 := R19.keep hb
          replace R20 := R20.keep hb
          replace R21 := R21.keep hb
          replace O := O.trans (hb.mono O.size)
          clear hb
          refine wpList_put rfl R10 nx3 35 _ _ rfl (by kernel_rfl) (by kernel_rfl) inf35 ?_
          intro w74 R10 ho hu
          replace R7 := R7.at_ (ho _ (by omega))
          replace R8 := R8.at_ (ho _ (by omega))
          replace R9 := R9.at_ (ho _ (by omega))
          replace R11 := R11.at_ (ho _ (by omega))
          replace R15 := R15.at_ (ho _ (by omega))
          replace R17 := R17.at_ (ho _ (by omega))
          replace R18 := R18.at_ (ho _ (by omega))
          replace R19 := R19.at_ (ho _ (by omega))
          replace R20 := R20.at_ (ho _ (by omega))
          replace R21 := R21.at_ (ho _ (by omega))
          replace O := hu _ _ (by omega) O
          clear ho hu
          refine wpList_nil ?_
          go_simp
          clear R21
          go_upto_region 25 with fail
          refine wp_region_lit ?_
          refine wpList_part rfl 35 _ rfl g19 0 (by kernel_rfl) 16 da R19.all _ Try.underlying35 rfl inf35 ?_
          refine wpList_part rfl 35 _ rfl g20 0 (by kernel_rfl) 16 cb R20.all _ Try.underlying35 rfl inf35 ?_
          refine wpList_call rfl 36 #[.agg (arr 16 da), .agg (arr 16 cb)] (.agg (arr 16 t)) (fun _ => by kernel_rfl) F.out.h12 ?_
          intro w75 hb
          replace R7 := R7.keep hb
          replace R8 := R8.keep hb
          replace R9 := R9.keep hb
          replace R10 := R10.keep hb
          replace R11 := R11.keep hb
          replace R15 := R15.keep hb
          replace R17 := R17.keep hb
          replace R18 := R18.keep hb
          replace R19 := R19.keep hb
          replace R20 := R20.keep hb
          replace O := O.trans (hb.mono O.size)
          clear hb
          refine wpList_new rfl (fun g => .pointer (some ⟨g, 0, none⟩)) (.cells #[Value.int IntKind.u64 0, Value.int IntKind.u64 0, Value.int IntKind.u64 0, Value.int IntKind.u64 0, Value.int IntKind.u64 0, Value.int IntKind.u64 0, Value.int IntKind.u64 0, Value.int IntKind.u64 0, Value.int IntKind.u64 0, Value.int IntKind.u64 0, Value.int IntKind.u64 0, Value.int IntKind.u64 0, Value.int IntKind.u64 0, Value.int IntKind.u64 0, Value.int IntKind.u64 0, Value.int IntKind.u64 0] 35) (fun _ => by kernel_rfl) ?_
          intro g22 w76 R22 n1 hb
          replace R22 : Row w76 g22 35 16 (fun _ => 0) := R22
          have l7 := R7.lt
          have l8 := R8.lt
          have l9 := R9.lt
          have l10 := R10.lt
          have l11 := R11.lt
          have l15 := R15.lt
          have l17 := R17.lt
          have l18 := R18.lt
          have l19 := R19.lt
          have l20 := R20.lt
          have lo := O.size
          replace R7 := R7.keep hb
          replace R8 := R8.keep hb
          replace R9 := R9.keep hb
          replace R10 := R10.keep hb
          replace R11 := R11.keep hb
          replace R15 := R15.keep hb
          replace R17 := R17.keep hb
          replace R18 := R18.keep hb
          replace R19 := R19.keep hb
          replace R20 := R20.keep hb
          replace O := O.trans (hb.mono O.size)
          clear hb
          refine wpList_put rfl R22 t 35 _ _ rfl (by kernel_rfl) (by kernel_rfl) inf35 ?_
          intro w77 R22 ho hu
          replace R7 := R7.at_ (ho _ (by omega))
          replace R8 := R8.at_ (ho _ (by omega))
          replace R9 := R9.at_ (ho _ (by omega))
          replace R10 := R10.at_ (ho _ (by omega))
          replace R11 := R11.at_ (ho _ (by omega))
          replace R15 := R15.at_ (ho _ (by omega))
          replace R17 := R17.at_ (ho _ (by omega))
          replace R18 := R18.at_ (ho _ (by omega))
          replace R19 := R19.at_ (ho _ (by omega))
          replace R20 := R20.at_ (ho _ (by omega))
          replace O := hu _ _ (by omega) O
          clear ho hu
          have d22 : g11 < g22 := by omega
          clear n1 lo l7 l8 l9 l10 l11 l15 l17 l18 l19 l20
          refine wpList_nil ?_
          go_simp
          clear R19 R20
          go_upto_region 26 with fail
          have hne := KW.some w77
          have L7 : Hid (∀ w', (∃ s : KW w77, w' = s.w) → w'.rangeAt g7 0 (arr 16 x1).toList) := hide (by rintro _ ⟨s, rfl⟩; exact (R7.keep s.keep).all)
          have L22 : Hid (∀ w', (∃ s : KW w77, w' = s.w) → w'.rangeAt g22 0 (arr 16 t).toList) := hide (by rintro _ ⟨s, rfl⟩; exact (R22.keep s.keep).all)
          have KK := hide (And.intro O (And.intro R7 (And.intro R8 (And.intro R9 (And.intro R10 (And.intro R11 (And.intro R15 (And.intro R17 (And.intro R18 R22)))))))))
          clear O R7 R8 R9 R10 R11 R15 R17 R18 R22
          refine wp_region_keep_tail 5 (by kernel_rfl) (by kernel_rfl) ?_
          simp only [List.take_succ_cons, List.take_zero, List.drop_succ_cons, List.drop_zero]
          go_big_quiet_want
          refine quiet_part 35 _ rfl g7 0 rfl 16 x1 L7.out _ Try.underlying35 rfl inf35 ?_
          go_simp
          go_big_quiet_on
          go_big_quiet_want
          refine quiet_part 35 _ rfl g22 0 rfl 16 t L22.out _ Try.underlying35 rfl inf35 ?_
          go_simp
          go_big_quiet_on
          go_big_quiet_want
          refine quiet_part 35 _ rfl g22 0 rfl 16 t L22.out _ Try.underlying35 rfl inf35 ?_
          go_simp
          go_big_quiet_on
          go_big_quiet_step ((exact keep_of (F.out.h13 _)))
          go_big_quiet_step ((exact keep_of (F.out.h14 _)))
          refine wpQuiet_nil ?_
          intro q78
          obtain ⟨O, R7, R8, R9, R10, R11, R15, R17, R18, R22⟩ := KK.out
          have hb := q78.keep
          replace R7 := R7.keep hb
          replace R8 := R8.keep hb
          replace R9 := R9.keep hb
          replace R10 := R10.keep hb
          replace R11 := R11.keep hb
          replace R15 := R15.keep hb
          replace R17 := R17.keep hb
          replace R18 := R18.keep hb
          replace R22 := R22.keep hb
          replace O := O.trans (hb.mono O.size)
          clear hb
          clear KK hne L7 L22
          generalize q78.w = w78 at *
          refine wpList_put rfl R11 nz3 35 _ _ rfl (by kernel_rfl) (by kernel_rfl) inf35 ?_
          intro w79 R11 ho hu
          replace R7 := R7.at_ (ho _ (by omega))
          replace R8 := R8.at_ (ho _ (by omega))
          replace R9 := R9.at_ (ho _ (by omega))
          replace R10 := R10.at_ (ho _ (by omega))
          replace R15 := R15.at_ (ho _ (by omega))
          replace R17 := R17.at_ (ho _ (by omega))
          replace R18 := R18.at_ (ho _ (by omega))
          replace R22 := R22.at_ (ho _ (by omega))
          replace O := hu _ _ (by omega) O
          clear ho hu
          refine wpList_nil ?_
          go_simp
          clear R22
          go_upto_region 27 with fail
          refine wp_region_lit ?_
          refine wpList_part rfl 35 _ rfl g15 0 (by kernel_rfl) 16 aa R15.all _ Try.underlying35 rfl inf35 ?_
          refine wpList_part rfl 35 _ rfl g17 0 (by kernel_rfl) 16 dd R17.all _ Try.underlying35 rfl inf35 ?_
          refine wpList_call rfl 35 #[.agg (arr 16 aa), .agg (arr 16 dd)] (.agg (arr 16 nx2)) (fun _ => by kernel_rfl) F.out.h15 ?_
          intro w80 hb
          replace R7 := R7.keep hb
          replace R8 := R8.keep hb
          replace R9 := R9.keep hb
          replace R10 := R10.keep hb
          replace R11 := R11.keep hb
          replace R15 := R15.keep hb
          replace R17 := R17.keep hb
          replace R18 := R18.keep hb
          replace O := O.trans (hb.mono O.size)
          clear hb
          refine wpList_put rfl R8 nx2 35 _ _ rfl (by kernel_rfl) (by kernel_rfl) inf35 ?_
          intro w81 R8 ho hu
          replace R7 := R7.at_ (ho _ (by omega))
          replace R9 := R9.at_ (ho _ (by omega))
          replace R10 := R10.at_ (ho _ (by omega))
          replace R11 := R11.at_ (ho _ (by omega))
          replace R15 := R15.at_ (ho _ (by omega))
          replace R17 := R17.at_ (ho _ (by omega))
          replace R18 := R18.at_ (ho _ (by omega))
          replace O := hu _ _ (by omega) O
          clear ho hu
          refine wpList_nil ?_
          go_simp
          clear R17
          go_upto_region 28 with fail
          have hne := KW.some w81
          have L15 : Hid (∀ w', (∃ s : KW w81, w' = s.w) → w'.rangeAt g15 0 (arr 16 aa).toList) := hide (by rintro _ ⟨s, rfl⟩; exact (R15.keep s.keep).all)
          have L18 : Hid (∀ w', (∃ s : KW w81, w' = s.w) → w'.rangeAt g18 0 (arr 16 e).toList) := hide (by rintro _ ⟨s, rfl⟩; exact (R18.keep s.keep).all)
          have KK := hide (And.intro O (And.intro R7 (And.intro R8 (And.intro R9 (And.intro R10 (And.intro R11 (And.intro R15 R18)))))))
          clear O R7 R8 R9 R10 R11 R15 R18
          refine wp_region_keep_tail 7 (by kernel_rfl) (by kernel_rfl) ?_
          simp only [List.take_succ_cons, List.take_zero, List.drop_succ_cons, List.drop_zero]
          go_big_quiet_want
          refine quiet_part 35 _ rfl g18 0 rfl 16 e L18.out _ Try.underlying35 rfl inf35 ?_
          go_simp
          go_big_quiet_on
          go_big_quiet_want
          refine quiet_part 35 _ rfl g15 0 rfl 16 aa L15.out _ Try.underlying35 rfl inf35 ?_
          go_simp
          go_big_quiet_on
          go_big_quiet_step ((exact keep_of (F.out.h16 _)))
          go_big_quiet_want
          refine quiet_part 35 _ rfl g18 0 rfl 16 e L18.out _ Try.underlying35 rfl inf35 ?_
          go_simp
          go_big_quiet_on
          go_big_quiet_step ((exact keep_of (F.out.h17 _)))
          go_big_quiet_step ((exact keep_of (F.out.h18 _)))
          go_big_quiet_step ((exact keep_of (F.out.h19 _)))
          refine wpQuiet_nil ?_
          intro q82
          obtain ⟨O, R7, R8, R9, R10, R11, R15, R18⟩ := KK.out
          have hb := q82.keep
          replace R7 := R7.keep hb
          replace R8 := R8.keep hb
          replace R9 := R9.keep hb
          replace R10 := R10.keep hb
          replace R11 := R11.keep hb
          replace R15 := R15.keep hb
          replace R18 := R18.keep hb
          replace O := O.trans (hb.mono O.size)
          clear hb
          clear KK hne L15 L18
          generalize q82.w = w82 at *
          refine wpList_put rfl R9 nz2 35 _ _ rfl (by kernel_rfl) (by kernel_rfl) inf35 ?_
          intro w83 R9 ho hu
          replace R7 := R7.at_ (ho _ (by omega))
          replace R8 := R8.at_ (ho _ (by omega))
          replace R10 := R10.at_ (ho _ (by omega))
          replace R11 := R11.at_ (ho _ (by omega))
          replace R15 := R15.at_ (ho _ (by omega))
          replace R18 := R18.at_ (ho _ (by omega))
          replace O := hu _ _ (by omega) O
          clear ho hu
          refine wpList_nil ?_
          go_simp
          clear R15 R18
          go_wp2_with fail
          rw [← T1.out] at R8
          rw [← T2.out] at R9
          rw [← T3.out] at R10
          rw [← T4.out] at R11
          clear F T1 T2 T3 T4
          have hx1 := HX1.out
          clear HX1
          subst hx1
          first | exact ⟨⟨p, by omega, ⟨_, rfl, rfl⟩, R7, R8, R9, R10, R11, O⟩, by simp [intOf]⟩ | (go_roundw; (case rel => exact ⟨p, by omega, ⟨_, rfl, rfl⟩, R7, R8, R9, R10, R11, O⟩); (case measure => simp [intOf]))
        · rw [hbit] at HN ⊢
          rw [show ((1 : Int) == 1) = true from rfl]
          obtain ⟨a, aa, d, dd, e, u1, da, u2, cb, s, t, t2, k1, k2, k3, F0⟩ := rf_of hX HOKk.x3 HOKk.z3 HOKk.x2 HOKk.z2
          have F := hide F0
          have T1 : Hid (d16 (rladF K X1 (255 - p)).x2 = d16 (rstep X1 ⟨q.x3, q.z3, q.x2, q.z2⟩).x3) := hide (by rw [HN.out]; rfl)
          have T2 : Hid (d16 (rladF K X1 (255 - p)).z2 = d16 (rstep X1 ⟨q.x3, q.z3, q.x2, q.z2⟩).z3) := hide (by rw [HN.out]; rfl)
          have T3 : Hid (d16 (rladF K X1 (255 - p)).x3 = d16 (rstep X1 ⟨q.x3, q.z3, q.x2, q.z2⟩).x2) := hide (by rw [HN.out]; rfl)
          have T4 : Hid (d16 (rladF K X1 (255 - p)).z3 = d16 (rstep X1 ⟨q.x3, q.z3, q.x2, q.z2⟩).z2) := hide (by rw [HN.out]; rfl)
          clear F0 HN HOKk hbit
          generalize d16 (rstep X1 ⟨q.x3, q.z3, q.x2, q.z2⟩).x2 = nx2 at F T3
          generalize d16 (rstep X1 ⟨q.x3, q.z3, q.x2, q.z2⟩).z2 = nz2 at F T4
          generalize d16 (rstep X1 ⟨q.x3, q.z3, q.x2, q.z2⟩).x3 = nx3 at F T1
          generalize d16 (rstep X1 ⟨q.x3, q.z3, q.x2, q.z2⟩).z3 = nz3 at F T2
          generalize hx1 : d16 X1 = x1 at F R7
          generalize d16 q.x3 = x2 at F R10
          generalize d16 q.z3 = z2 at F R11
          generalize d16 q.x2 = x3 at F R8
          generalize d16 q.z2 = z3 at F R9
          have HX1 := hide hx1
          clear hx1
          go_simp
          go_upto_region 14 with fail
          refine wp_region_lit ?_
          refine wpList_part rfl 35 _ rfl g10 0 (by kernel_rfl) 16 x2 R10.all _ Try.underlying35 rfl inf35 ?_
          refine wpList_part rfl 35 _ rfl g8 0 (by kernel_rfl) 16 x3 R8.all _ Try.underlying35 rfl inf35 ?_
          refine wpList_put rfl R8 x2 35 _ _ rfl (by kernel_rfl) (by kernel_rfl) inf35 ?_
          intro w51 R8 ho hu
          replace R7 := R7.at_ (ho _ (by omega))
          replace R9 := R9.at_ (ho _ (by omega))
          replace R10 := R10.at_ (ho _ (by omega))
          replace R11 := R11.at_ (ho _ (by omega))
          replace O := hu _ _ (by omega) O
          clear ho hu
          refine wpList_put rfl R10 x3 35 _ _ rfl (by kernel_rfl) (by kernel_rfl) inf35 ?_
          intro w52 R10 ho hu
          replace R7 := R7.at_ (ho _ (by omega))
          replace R8 := R8.at_ (ho _ (by omega))
          replace R9 := R9.at_ (ho _ (by omega))
          replace R11 := R11.at_ (ho _ (by omega))
          replace O := hu _ _ (by omega) O
          clear ho hu
          refine wpList_nil ?_
          go_simp
          go_upto_region 15 with fail
          refine wp_region_lit ?_
          refine wpList_part rfl 35 _ rfl g11 0 (by kernel_rfl) 16 z2 R11.all _ Try.underlying35 rfl inf35 ?_
          refine wpList_part rfl 35 _ rfl g9 0 (by kernel_rfl) 16 z3 R9.all _ Try.underlying35 rfl inf35 ?_
          refine wpList_put rfl R9 z2 35 _ _ rfl (by kernel_rfl) (by kernel_rfl) inf35 ?_
          intro w53 R9 ho hu
          replace R7 := R7.at_ (ho _ (by omega))
          replace R8 := R8.at_ (ho _ (by omega))
          replace R10 := R10.at_ (ho _ (by omega))
          replace R11 := R11.at_ (ho _ (by omega))
          replace O := hu _ _ (by omega) O
          clear ho hu
          refine wpList_put rfl R11 z3 35 _ _ rfl (by kernel_rfl) (by kernel_rfl) inf35 ?_
          intro w54 R11 ho hu
          replace R7 := R7.at_ (ho _ (by omega))
          replace R8 := R8.at_ (ho _ (by omega))
          replace R9 := R9.at_ (ho _ (by omega))
          replace R10 := R10.at_ (ho _ (by omega))
          replace O := hu _ _ (by omega) O
          clear ho hu
          refine wpList_nil ?_
          go_simp
          go_upto_region 16 with fail
          refine wp_region_lit ?_
          refine wpList_part rfl 35 _ rfl g8 0 (by kernel_rfl) 16 x2 R8.all _ Try.underlying35 rfl inf35 ?_
          refine wpList_part rfl 35 _ rfl g9 0 (by kernel_rfl) 16 z2 R9.all _ Try.underlying35 rfl inf35 ?_
          refine wpList_call rfl 34 #[.agg (arr 16 x2), .agg (arr 16 z2)] (.agg (arr 16 a)) (fun _ => by kernel_rfl) F.out.h1 ?_
          intro w55 hb
          replace R7 := R7.keep hb
          replace R8 := R8.keep hb
          replace R9 := R9.keep hb
          replace R10 := R10.keep hb
          replace R11 := R11.keep hb
          replace O := O.trans (hb.mono O.size)
          clear hb
          refine wpList_new rfl (fun g => .pointer (some ⟨g, 0, none⟩)) (.cells #[Value.int IntKind.u64 0, Value.int IntKind.u64 0, Value.int IntKind.u64 0, Value.int IntKind.u64 0, Value.int IntKind.u64 0, Value.int IntKind.u64 0, Value.int IntKind.u64 0, Value.int IntKind.u64 0, Value.int IntKind.u64 0, Value.int IntKind.u64 0, Value.int IntKind.u64 0, Value.int IntKind.u64 0, Value.int IntKind.u64 0, Value.int IntKind.u64 0, Value.int IntKind.u64 0, Value.int IntKind.u64 0] 35) (fun _ => by kernel_rfl) ?_
          intro g14 w56 R14 n1 hb
          replace R14 : Row w56 g14 35 16 (fun _ => 0) := R14
          have l7 := R7.lt
          have l8 := R8.lt
          have l9 := R9.lt
          have l10 := R10.lt
          have l11 := R11.lt
          have lo := O.size
          replace R7 := R7.keep hb
          replace R8 := R8.keep hb
          replace R9 := R9.keep hb
          replace R10 := R10.keep hb
          replace R11 := R11.keep hb
          replace O := O.trans (hb.mono O.size)
          clear hb
          refine wpList_put rfl R14 a 35 _ _ rfl (by kernel_rfl) (by kernel_rfl) inf35 ?_
          intro w57 R14 ho hu
          replace R7 := R7.at_ (ho _ (by omega))
          replace R8 := R8.at_ (ho _ (by omega))
          replace R9 := R9.at_ (ho _ (by omega))
          replace R10 := R10.at_ (ho _ (by omega))
          replace R11 := R11.at_ (ho _ (by omega))
          replace O := hu _ _ (by omega) O
          clear ho hu
          have d14 : g11 < g14 := by omega
          clear n1 lo l7 l8 l9 l10 l11
          refine wpList_nil ?_
          go_simp
          go_upto_region 17 with fail
          refine wp_region_lit ?_
          refine wpList_part rfl 35 _ rfl g14 0 (by kernel_rfl) 16 a R14.all _ Try.underlying35 rfl inf35 ?_
          refine wpList_part rfl 35 _ rfl g14 0 (by kernel_rfl) 16 a R14.all _ Try.underlying35 rfl inf35 ?_
          refine wpList_call rfl 35 #[.agg (arr 16 a), .agg (arr 16 a)] (.agg (arr 16 aa)) (fun _ => by kernel_rfl) F.out.h2 ?_
          intro w58 hb
          replace R7 := R7.keep hb
          replace R8 := R8.keep hb
          replace R9 := R9.keep hb
          replace R10 := R10.keep hb
          replace R11 := R11.keep hb
          replace R14 := R14.keep hb
          replace O := O.trans (hb.mono O.size)
          clear hb
          refine wpList_new rfl (fun g => .pointer (some ⟨g, 0, none⟩)) (.cells #[Value.int IntKind.u64 0, Value.int IntKind.u64 0, Value.int IntKind.u64 0, Value.int IntKind.u64 0, Value.int IntKind.u64 0, Value.int IntKind.u64 0, Value.int IntKind.u64 0, Value.int IntKind.u64 0, Value.int IntKind.u64 0, Value.int IntKind.u64 0, Value.int IntKind.u64 0, Value.int IntKind.u64 0, Value.int IntKind.u64 0, Value.int IntKind.u64 0, Value.int IntKind.u64 0, Value.int IntKind.u64 0] 35) (fun _ => by kernel_rfl) ?_
          intro g15 w59 R15 n1 hb
          replace R15 : Row w59 g15 35 16 (fun _ => 0) := R15
          have l7 := R7.lt
          have l8 := R8.lt
          have l9 := R9.lt
          have l10 := R10.lt
          have l11 := R11.lt
          have l14 := R14.lt
          have lo := O.size
          replace R7 := R7.keep hb
          replace R8 := R8.keep hb
          replace R9 := R9.keep hb
          replace R10 := R10.keep hb
          replace R11 := R11.keep hb
          replace R14 := R14.keep hb
          replace O := O.trans (hb.mono O.size)
          clear hb
          refine wpList_put rfl R15 aa 35 _ _ rfl (by kernel_rfl) (by kernel_rfl) inf35 ?_
          intro w60 R15 ho hu
          replace R7 := R7.at_ (ho _ (by omega))
          replace R8 := R8.at_ (ho _ (by omega))
          replace R9 := R9.at_ (ho _ (by omega))
          replace R10 := R10.at_ (ho _ (by omega))
          replace R11 := R11.at_ (ho _ (by omega))
          replace R14 := R14.at_ (ho _ (by omega))
          replace O := hu _ _ (by omega) O
          clear ho hu
          have d15 : g11 < g15 := by omega
          clear n1 lo l7 l8 l9 l10 l11 l14
          refine wpList_nil ?_
          go_simp
          go_upto_region 18 with fail
          refine wp_region_lit ?_
          refine wpList_part rfl 35 _ rfl g8 0 (by kernel_rfl) 16 x2 R8.all _ Try.underlying35 rfl inf35 ?_
          refine wpList_part rfl 35 _ rfl g9 0 (by kernel_rfl) 16 z2 R9.all _ Try.underlying35 rfl inf35 ?_
          refine wpList_call rfl 36 #[.agg (arr 16 x2), .agg (arr 16 z2)] (.agg (arr 16 d)) (fun _ => by kernel_rfl) F.out.h3 ?_
          intro w61 hb
          replace R7 := R7.keep hb
          replace R8 := R8.keep hb
          replace R9 := R9.keep hb
          replace R10 := R10.keep hb
          replace R11 := R11.keep hb
          replace R14 := R14.keep hb
          replace R15 := R15.keep hb
          replace O := O.trans (hb.mono O.size)
          clear hb
          refine wpList_new rfl (fun g => .pointer (some ⟨g, 0, none⟩)) (.cells #[Value.int IntKind.u64 0, Value.int IntKind.u64 0, Value.int IntKind.u64 0, Value.int IntKind.u64 0, Value.int IntKind.u64 0, Value.int IntKind.u64 0, Value.int IntKind.u64 0, Value.int IntKind.u64 0, Value.int IntKind.u64 0, Value.int IntKind.u64 0, Value.int IntKind.u64 0, Value.int IntKind.u64 0, Value.int IntKind.u64 0, Value.int IntKind.u64 0, Value.int IntKind.u64 0, Value.int IntKind.u64 0] 35) (fun _ => by kernel_rfl) ?_
          intro g16 w62 R16 n1 hb
          replace R16 : Row w62 g16 35 16 (fun _ => 0) := R16
          have l7 := R7.lt
          have l8 := R8.lt
          have l9 := R9.lt
          have l10 := R10.lt
          have l11 := R11.lt
          have l14 := R14.lt
          have l15 := R15.lt
          have lo := O.size
          replace R7 := R7.keep hb
          replace R8 := R8.keep hb
          replace R9 := R9.keep hb
          replace R10 := R10.keep hb
          replace R11 := R11.keep hb
          replace R14 := R14.keep hb
          replace R15 := R15.keep hb
          replace O := O.trans (hb.mono O.size)
          clear hb
          refine wpList_put rfl R16 d 35 _ _ rfl (by kernel_rfl) (by kernel_rfl) inf35 ?_
          intro w63 R16 ho hu
          replace R7 := R7.at_ (ho _ (by omega))
          replace R8 := R8.at_ (ho _ (by omega))
          replace R9 := R9.at_ (ho _ (by omega))
          replace R10 := R10.at_ (ho _ (by omega))
          replace R11 := R11.at_ (ho _ (by omega))
          replace R14 := R14.at_ (ho _ (by omega))
          replace R15 := R15.at_ (ho _ (by omega))
          replace O := hu _ _ (by omega) O
          clear ho hu
          have d16 : g11 < g16 := by omega
          clear n1 lo l7 l8 l9 l10 l11 l14 l15
          refine wpList_nil ?_
          go_simp
          go_upto_region 19 with fail
          refine wp_region_lit ?_
          refine wpList_part rfl 35 _ rfl g16 0 (by kernel_rfl) 16 d R16.all _ Try.underlying35 rfl inf35 ?_
          refine wpList_part rfl 35 _ rfl g16 0 (by kernel_rfl) 16 d R16.all _ Try.underlying35 rfl inf35 ?_
          refine wpList_call rfl 35 #[.agg (arr 16 d), .agg (arr 16 d)] (.agg (arr 16 dd)) (fun _ => by kernel_rfl) F.out.h4 ?_
          intro w64 hb
          replace R7 := R7.keep hb
          replace R8 := R8.keep hb
          replace R9 := R9.keep hb
          replace R10 := R10.keep hb
          replace R11 := R11.keep hb
          replace R14 := R14.keep hb
          replace R15 := R15.keep hb
          replace R16 := R16.keep hb
          replace O := O.trans (hb.mono O.size)
          clear hb
          refine wpList_new rfl (fun g => .pointer (some ⟨g, 0, none⟩)) (.cells #[Value.int IntKind.u64 0, Value.int IntKind.u64 0, Value.int IntKind.u64 0, Value.int IntKind.u64 0, Value.int IntKind.u64 0, Value.int IntKind.u64 0, Value.int IntKind.u64 0, Value.int IntKind.u64 0, Value.int IntKind.u64 0, Value.int IntKind.u64 0, Value.int IntKind.u64 0, Value.int IntKind.u64 0, Value.int IntKind.u64 0, Value.int IntKind.u64 0, Value.int IntKind.u64 0, Value.int IntKind.u64 0] 35) (fun _ => by kernel_rfl) ?_
          intro g17 w65 R17 n1 hb
          replace R17 : Row w65 g17 35 16 (fun _ => 0) := R17
          have l7 := R7.lt
          have l8 := R8.lt
          have l9 := R9.lt
          have l10 := R10.lt
          have l11 := R11.lt
          have l14 := R14.lt
          have l15 := R15.lt
          have l16 := R16.lt
          have lo := O.size
          replace R7 := R7.keep hb
          replace R8 := R8.keep hb
          replace R9 := R9.keep hb
          replace R10 := R10.keep hb
          replace R11 := R11.keep hb
          replace R14 := R14.keep hb
          replace R15 := R15.keep hb
          replace R16 := R16.keep hb
          replace O := O.trans (hb.mono O.size)
          clear hb
          refine wpList_put rfl R17 dd 35 _ _ rfl (by kernel_rfl) (by kernel_rfl) inf35 ?_
          intro w66 R17 ho hu
          replace R7 := R7.at_ (ho _ (by omega))
          replace R8 := R8.at_ (ho _ (by omega))
          replace R9 := R9.at_ (ho _ (by omega))
          replace R10 := R10.at_ (ho _ (by omega))
          replace R11 := R11.at_ (ho _ (by omega))
          replace R14 := R14.at_ (ho _ (by omega))
          replace R15 := R15.at_ (ho _ (by omega))
          replace R16 := R16.at_ (ho _ (by omega))
          replace O := hu _ _ (by omega) O
          clear ho hu
          have d17 : g11 < g17 := by omega
          clear n1 lo l7 l8 l9 l10 l11 l14 l15 l16
          refine wpList_nil ?_
          go_simp
          go_upto_region 20 with fail
          refine wp_region_lit ?_
          refine wpList_part rfl 35 _ rfl g15 0 (by kernel_rfl) 16 aa R15.all _ Try.underlying35 rfl inf35 ?_
          refine wpList_part rfl 35 _ rfl g17 0 (by kernel_rfl) 16 dd R17.all _ Try.underlying35 rfl inf35 ?_
          refine wpList_call rfl 36 #[.agg (arr 16 aa), .agg (arr 16 dd)] (.agg (arr 16 e)) (fun _ => by kernel_rfl) F.out.h5 ?_
          intro w67 hb
          replace R7 := R7.keep hb
          replace R8 := R8.keep hb
          replace R9 := R9.keep hb
          replace R10 := R10.keep hb
          replace R11 := R11.keep hb
          replace R14 := R14.keep hb
          replace R15 := R15.keep hb
          replace R16 := R16.keep hb
          replace R17 := R17.keep hb
          replace O := O.trans (hb.mono O.size)
          clear hb
          refine wpList_new rfl (fun g => .pointer (some ⟨g, 0, none⟩)) (.cells #[Value.int IntKind.u64 0, Value.int IntKind.u64 0, Value.int IntKind.u64 0, Value.int IntKind.u64 0, Value.int IntKind.u64 0, Value.int IntKind.u64 0, Value.int IntKind.u64 0, Value.int IntKind.u64 0, Value.int IntKind.u64 0, Value.int IntKind.u64 0, Value.int IntKind.u64 0, Value.int IntKind.u64 0, Value.int IntKind.u64 0, Value.int IntKind.u64 0, Value.int IntKind.u64 0, Value.int IntKind.u64 0] 35) (fun _ => by kernel_rfl) ?_
          intro g18 w68 R18 n1 hb
          replace R18 : Row w68 g18 35 16 (fun _ => 0) := R18
          have l7 := R7.lt
          have l8 := R8.lt
          have l9 := R9.lt
          have l10 := R10.lt
          have l11 := R11.lt
          have l14 := R14.lt
          have l15 := R15.lt
          have l16 := R16.lt
          have l17 := R17.lt
          have lo := O.size
          replace R7 := R7.keep hb
          replace R8 := R8.keep hb
          replace R9 := R9.keep hb
          replace R10 := R10.keep hb
          replace R11 := R11.keep hb
          replace R14 := R14.keep hb
          replace R15 := R15.keep hb
          replace R16 := R16.keep hb
          replace R17 := R17.keep hb
          replace O := O.trans (hb.mono O.size)
          clear hb
          refine wpList_put rfl R18 e 35 _ _ rfl (by kernel_rfl) (by kernel_rfl) inf35 ?_
          intro w69 R18 ho hu
          replace R7 := R7.at_ (ho _ (by omega))
          replace R8 := R8.at_ (ho _ (by omega))
          replace R9 := R9.at_ (ho _ (by omega))
          replace R10 := R10.at_ (ho _ (by omega))
          replace R11 := R11.at_ (ho _ (by omega))
          replace R14 := R14.at_ (ho _ (by omega))
          replace R15 := R15.at_ (ho _ (by omega))
          replace R16 := R16.at_ (ho _ (by omega))
          replace R17 := R17.at_ (ho _ (by omega))
          replace O := hu _ _ (by omega) O
          clear ho hu
          have d18 : g11 < g18 := by omega
          clear n1 lo l7 l8 l9 l10 l11 l14 l15 l16 l17
          refine wpList_nil ?_
          go_simp
          go_upto_region 21 with fail
          have L10 : Hid (∀ s : KW w69, s.w.rangeAt g10 0 (arr 16 x3).toList) := hide fun s => (R10.keep s.keep).all
          have L11 : Hid (∀ s : KW w69, s.w.rangeAt g11 0 (arr 16 z3).toList) := hide fun s => (R11.keep s.keep).all
          have L14 : Hid (∀ s : KW w69, s.w.rangeAt g14 0 (arr 16 a).toList) := hide fun s => (R14.keep s.keep).all
          refine wp_region_keep_alloc (Z := .cells #[Value.int IntKind.u64 0, Value.int IntKind.u64 0, Value.int IntKind.u64 0, Value.int IntKind.u64 0, Value.int IntKind.u64 0, Value.int IntKind.u64 0, Value.int IntKind.u64 0, Value.int IntKind.u64 0, Value.int IntKind.u64 0, Value.int IntKind.u64 0, Value.int IntKind.u64 0, Value.int IntKind.u64 0, Value.int IntKind.u64 0, Value.int IntKind.u64 0, Value.int IntKind.u64 0, Value.int IntKind.u64 0] 35) 5 (by kernel_rfl) (by kernel_rfl) rfl rfl (fun _ _ => by kernel_rfl) ?_
          simp only [List.take_succ_cons, List.take_zero, List.drop_succ_cons, List.drop_zero]
          refine wpK_load rfl 35 _ rfl g10 0 (by kernel_rfl) 16 x3 L10.out _ Try.underlying35 rfl inf35 ?_
          refine wpK_load rfl 35 _ rfl g11 0 (by kernel_rfl) 16 z3 L11.out _ Try.underlying35 rfl inf35 ?_
          refine wpK_call 36 #[.agg (arr 16 x3), .agg (arr 16 z3)] (.agg (arr 16 u1)) rfl (fun _ => by kernel_rfl) F.out.h6 ?_
          refine wpK_load rfl 35 _ rfl g14 0 (by kernel_rfl) 16 a L14.out _ Try.underlying35 rfl inf35 ?_
          refine wpK_call 35 #[.agg (arr 16 u1), .agg (arr 16 a)] (.agg (arr 16 da)) rfl (fun _ => by kernel_rfl) F.out.h7 ?_
          refine wpK_nil ?_
          intro w70 g19 hb n1 r1 a2 ha2
          simp [go_sem] at ha2
          subst ha2
          clear L10 L11 L14
          have l7 := R7.lt
          have l8 := R8.lt
          have l9 := R9.lt
          have l10 := R10.lt
          have l11 := R11.lt
          have l14 := R14.lt
          have l15 := R15.lt
          have l16 := R16.lt
          have l17 := R17.lt
          have l18 := R18.lt
          have lo := O.size
          replace R7 := R7.keep hb
          replace R8 := R8.keep hb
          replace R9 := R9.keep hb
          replace R10 := R10.keep hb
          replace R11 := R11.keep hb
          replace R14 := R14.keep hb
          replace R15 := R15.keep hb
          replace R16 := R16.keep hb
          replace R17 := R17.keep hb
          replace R18 := R18.keep hb
          replace O := O.trans (hb.mono O.size)
          clear hb
          have R19 : Row w70 g19 35 16 (fun _ => 0) := r1
          clear r1
          refine wpList_put rfl R19 da 35 _ _ rfl (by kernel_rfl) (by kernel_rfl) inf35 ?_
          intro w71 R19 ho hu
          replace R7 := R7.at_ (ho _ (by omega))
          replace R8 := R8.at_ (ho _ (by omega))
          replace R9 := R9.at_ (ho _ (by omega))
          replace R10 := R10.at_ (ho _ (by omega))
          replace R11 := R11.at_ (ho _ (by omega))
          replace R14 := R14.at_ (ho _ (by omega))
          replace R15 := R15.at_ (ho _ (by omega))
          replace R16 := R16.at_ (ho _ (by omega))
          replace R17 := R17.at_ (ho _ (by omega))
          replace R18 := R18.at_ (ho _ (by omega))
          replace O := hu _ _ (by omega) O
          clear ho hu
          have d19 : g11 < g19 := by omega
          clear n1 lo l7 l8 l9 l10 l11 l14 l15 l16 l17 l18
          refine wpList_nil ?_
          go_simp
          go_upto_region 22 with fail
          have L10 : Hid (∀ s : KW w71, s.w.rangeAt g10 0 (arr 16 x3).toList) := hide fun s => (R10.keep s.keep).all
          have L11 : Hid (∀ s : KW w71, s.w.rangeAt g11 0 (arr 16 z3).toList) := hide fun s => (R11.keep s.keep).all
          have L16 : Hid (∀ s : KW w71, s.w.rangeAt g16 0 (arr 16 d).toList) := hide fun s => (R16.keep s.keep).all
          refine wp_region_keep_alloc (Z := .cells #[Value.int IntKind.u64 0, Value.int IntKind.u64 0, Value.int IntKind.u64 0, Value.int IntKind.u64 0, Value.int IntKind.u64 0, Value.int IntKind.u64 0, Value.int IntKind.u64 0, Value.int IntKind.u64 0, Value.int IntKind.u64 0, Value.int IntKind.u64 0, Value.int IntKind.u64 0, Value.int IntKind.u64 0, Value.int IntKind.u64 0, Value.int IntKind.u64 0, Value.int IntKind.u64 0, Value.int IntKind.u64 0] 35) 5 (by kernel_rfl) (by kernel_rfl) rfl rfl (fun _ _ => by kernel_rfl) ?_
          simp only [List.take_succ_cons, List.take_zero, List.drop_succ_cons, List.drop_zero]
          refine wpK_load rfl 35 _ rfl g10 0 (by kernel_rfl) 16 x3 L10.out _ Try.underlying35 rfl inf35 ?_
          refine wpK_load rfl 35 _ rfl g11 0 (by kernel_rfl) 16 z3 L11.out _ Try.underlying35 rfl inf35 ?_
          refine wpK_call 34 #[.agg (arr 16 x3), .agg (arr 16 z3)] (.agg (arr 16 u2)) rfl (fun _ => by kernel_rfl) F.out.h8 ?_
          refine wpK_load rfl 35 _ rfl g16 0 (by kernel_rfl) 16 d L16.out _ Try.underlying35 rfl inf35 ?_
          refine wpK_call 35 #[.agg (arr 16 u2), .agg (arr 16 d)] (.agg (arr 16 cb)) rfl (fun _ => by kernel_rfl) F.out.h9 ?_
          refine wpK_nil ?_
          intro w72 g20 hb n1 r1 a2 ha2
          simp [go_sem] at ha2
          subst ha2
          clear L10 L11 L16
          have l7 := R7.lt
          have l8 := R8.lt
          have l9 := R9.lt
          have l10 := R10.lt
          have l11 := R11.lt
          have l14 := R14.lt
          have l15 := R15.lt
          have l16 := R16.lt
          have l17 := R17.lt
          have l18 := R18.lt
          have l19 := R19.lt
          have lo := O.size
          replace R7 := R7.keep hb
          replace R8 := R8.keep hb
          replace R9 := R9.keep hb
          replace R10 := R10.keep hb
          replace R11 := R11.keep hb
          replace R14 := R14.keep hb
          replace R15 := R15.keep hb
          replace R16 := R16.keep hb
          replace R17 := R17.keep hb
          replace R18 := R18.keep hb
          replace R19 := R19.keep hb
          replace O := O.trans (hb.mono O.size)
          clear hb
          have R20 : Row w72 g20 35 16 (fun _ => 0) := r1
          clear r1
          refine wpList_put rfl R20 cb 35 _ _ rfl (by kernel_rfl) (by kernel_rfl) inf35 ?_
          intro w73 R20 ho hu
          replace R7 := R7.at_ (ho _ (by omega))
          replace R8 := R8.at_ (ho _ (by omega))
          replace R9 := R9.at_ (ho _ (by omega))
          replace R10 := R10.at_ (ho _ (by omega))
          replace R11 := R11.at_ (ho _ (by omega))
          replace R14 := R14.at_ (ho _ (by omega))
          replace R15 := R15.at_ (ho _ (by omega))
          replace R16 := R16.at_ (ho _ (by omega))
          replace R17 := R17.at_ (ho _ (by omega))
          replace R18 := R18.at_ (ho _ (by omega))
          replace R19 := R19.at_ (ho _ (by omega))
          replace O := hu _ _ (by omega) O
          clear ho hu
          have d20 : g11 < g20 := by omega
          clear n1 lo l7 l8 l9 l10 l11 l14 l15 l16 l17 l18 l19
          refine wpList_nil ?_
          go_simp
          clear R14 R16
          go_upto_region 23 with fail
          refine wp_region_lit ?_
          refine wpList_part rfl 35 _ rfl g19 0 (by kernel_rfl) 16 da R19.all _ Try.underlying35 rfl inf35 ?_
          refine wpList_part rfl 35 _ rfl g20 0 (by kernel_rfl) 16 cb R20.all _ Try.underlying35 rfl inf35 ?_
          refine wpList_call rfl 34 #[.agg (arr 16 da), .agg (arr 16 cb)] (.agg (arr 16 s)) (fun _ => by kernel_rfl) F.out.h10 ?_
          intro w74 hb
          replace R7 := R7.keep hb
          replace R8 := R8.keep hb
          replace R9 := R9.keep hb
          replace R10 := R10.keep hb
          replace R11 := R11.keep hb
          replace R15 := R15.keep hb
          replace R17 := R17.keep hb
          replace R18 := R18.keep hb
          replace R19 := R19.keep hb
          replace R20 := R20.keep hb
          replace O := O.trans (hb.mono O.size)
          clear hb
          refine wpList_new rfl (fun g => .pointer (some ⟨g, 0, none⟩)) (.cells #[Value.int IntKind.u64 0, Value.int IntKind.u64 0, Value.int IntKind.u64 0, Value.int IntKind.u64 0, Value.int IntKind.u64 0, Value.int IntKind.u64 0, Value.int IntKind.u64 0, Value.int IntKind.u64 0, Value.int IntKind.u64 0, Value.int IntKind.u64 0, Value.int IntKind.u64 0, Value.int IntKind.u64 0, Value.int IntKind.u64 0, Value.int IntKind.u64 0, Value.int IntKind.u64 0, Value.int IntKind.u64 0] 35) (fun _ => by kernel_rfl) ?_
          intro g21 w75 R21 n1 hb
          replace R21 : Row w75 g21 35 16 (fun _ => 0) := R21
          have l7 := R7.lt
          have l8 := R8.lt
          have l9 := R9.lt
          have l10 := R10.lt
          have l11 := R11.lt
          have l15 := R15.lt
          have l17 := R17.lt
          have l18 := R18.lt
          have l19 := R19.lt
          have l20 := R20.lt
          have lo := O.size
          replace R7 := R7.keep hb
          replace R8 := R8.keep hb
          replace R9 := R9.keep hb
          replace R10 := R10.keep hb
          replace R11 := R11.keep hb
          replace R15 := R15.keep hb
          replace R17 := R17.keep hb
          replace R18 := R18.keep hb
          replace R19 := R19.keep hb
          replace R20 := R20.keep hb
          replace O := O.trans (hb.mono O.size)
          clear hb
          refine wpList_put rfl R21 s 35 _ _ rfl (by kernel_rfl) (by kernel_rfl) inf35 ?_
          intro w76 R21 ho hu
          replace R7 := R7.at_ (ho _ (by omega))
          replace R8 := R8.at_ (ho _ (by omega))
          replace R9 := R9.at_ (ho _ (by omega))
          replace R10 := R10.at_ (ho _ (by omega))
          replace R11 := R11.at_ (ho _ (by omega))
          replace R15 := R15.at_ (ho _ (by omega))
          replace R17 := R17.at_ (ho _ (by omega))
          replace R18 := R18.at_ (ho _ (by omega))
          replace R19 := R19.at_ (ho _ (by omega))
          replace R20 := R20.at_ (ho _ (by omega))
          replace O := hu _ _ (by omega) O
          clear ho hu
          have d21 : g11 < g21 := by omega
          clear n1 lo l7 l8 l9 l10 l11 l15 l17 l18 l19 l20
          refine wpList_nil ?_
          go_simp
          go_upto_region 24 with fail
          refine wp_region_lit ?_
          refine wpList_part rfl 35 _ rfl g21 0 (by kernel_rfl) 16 s R21.all _ Try.underlying35 rfl inf35 ?_
          refine wpList_part rfl 35 _ rfl g21 0 (by kernel_rfl) 16 s R21.all _ Try.underlying35 rfl inf35 ?_
          refine wpList_call rfl 35 #[.agg (arr 16 s), .agg (arr 16 s)] (.agg (arr 16 nx3)) (fun _ => by kernel_rfl) F.out.h11 ?_
          intro w77 hb
          replace R7 := R7.keep hb
          replace R8 := R8.keep hb
          replace R9 := R9.keep hb
          replace R10 := R10.keep hb
          replace R11 := R11.keep hb
          replace R15 := R15.keep hb
          replace R17 := R17.keep hb
          replace R18 := R18.keep hb
          replace R19 := R19.keep hb
          replace R20 := R20.keep hb
          replace R21 := R21.keep hb
          replace O := O.trans (hb.mono O.size)
          clear hb
          refine wpList_put rfl R10 nx3 35 _ _ rfl (by kernel_rfl) (by kernel_rfl) inf35 ?_
          intro w78 R10 ho hu
          replace R7 := R7.at_ (ho _ (by omega))
          replace R8 := R8.at_ (ho _ (by omega))
          replace R9 := R9.at_ (ho _ (by omega))
          replace R11 := R11.at_ (ho _ (by omega))
          replace R15 := R15.at_ (ho _ (by omega))
          replace R17 := R17.at_ (ho _ (by omega))
          replace R18 := R18.at_ (ho _ (by omega))
          replace R19 := R19.at_ (ho _ (by omega))
          replace R20 := R20.at_ (ho _ (by omega))
          replace R21 := R21.at_ (ho _ (by omega))
          replace O := hu _ _ (by omega) O
          clear ho hu
          refine wpList_nil ?_
          go_simp
          clear R21
          go_upto_region 25 with fail
          refine wp_region_lit ?_
          refine wpList_part rfl 35 _ rfl g19 0 (by kernel_rfl) 16 da R19.all _ Try.underlying35 rfl inf35 ?_
          refine wpList_part rfl 35 _ rfl g20 0 (by kernel_rfl) 16 cb R20.all _ Try.underlying35 rfl inf35 ?_
          refine wpList_call rfl 36 #[.agg (arr 16 da), .agg (arr 16 cb)] (.agg (arr 16 t)) (fun _ => by kernel_rfl) F.out.h12 ?_
          intro w79 hb
          replace R7 := R7.keep hb
          replace R8 := R8.keep hb
          replace R9 := R9.keep hb
          replace R10 := R10.keep hb
          replace R11 := R11.keep hb
          replace R15 := R15.keep hb
          replace R17 := R17.keep hb
          replace R18 := R18.keep hb
          replace R19 := R19.keep hb
          replace R20 := R20.keep hb
          replace O := O.trans (hb.mono O.size)
          clear hb
          refine wpList_new rfl (fun g => .pointer (some ⟨g, 0, none⟩)) (.cells #[Value.int IntKind.u64 0, Value.int IntKind.u64 0, Value.int IntKind.u64 0, Value.int IntKind.u64 0, Value.int IntKind.u64 0, Value.int IntKind.u64 0, Value.int IntKind.u64 0, Value.int IntKind.u64 0, Value.int IntKind.u64 0, Value.int IntKind.u64 0, Value.int IntKind.u64 0, Value.int IntKind.u64 0, Value.int IntKind.u64 0, Value.int IntKind.u64 0, Value.int IntKind.u64 0, Value.int IntKind.u64 0] 35) (fun _ => by kernel_rfl) ?_
          intro g22 w80 R22 n1 hb
          replace R22 : Row w80 g22 35 16 (fun _ => 0) := R22
          have l7 := R7.lt
          have l8 := R8.lt
          have l9 := R9.lt
          have l10 := R10.lt
          have l11 := R11.lt
          have l15 := R15.lt
          have l17 := R17.lt
          have l18 := R18.lt
          have l19 := R19.lt
          have l20 := R20.lt
          have lo := O.size
          replace R7 := R7.keep hb
          replace R8 := R8.keep hb
          replace R9 := R9.keep hb
          replace R10 := R10.keep hb
          replace R11 := R11.keep hb
          replace R15 := R15.keep hb
          replace R17 := R17.keep hb
          replace R18 := R18.keep hb
          replace R19 := R19.keep hb
          replace R20 := R20.keep hb
          replace O := O.trans (hb.mono O.size)
          clear hb
          refine wpList_put rfl R22 t 35 _ _ rfl (by kernel_rfl) (by kernel_rfl) inf35 ?_
          intro w81 R22 ho hu
          replace R7 := R7.at_ (ho _ (by omega))
          replace R8 := R8.at_ (ho _ (by omega))
          replace R9 := R9.at_ (ho _ (by omega))
          replace R10 := R10.at_ (ho _ (by omega))
          replace R11 := R11.at_ (ho _ (by omega))
          replace R15 := R15.at_ (ho _ (by omega))
          replace R17 := R17.at_ (ho _ (by omega))
          replace R18 := R18.at_ (ho _ (by omega))
          replace R19 := R19.at_ (ho _ (by omega))
          replace R20 := R20.at_ (ho _ (by omega))
          replace O := hu _ _ (by omega) O
          clear ho hu
          have d22 : g11 < g22 := by omega
          clear n1 lo l7 l8 l9 l10 l11 l15 l17 l18 l19 l20
          refine wpList_nil ?_
          go_simp
          clear R19 R20
          go_upto_region 26 with fail
          have hne := KW.some w81
          have L7 : Hid (∀ w', (∃ s : KW w81, w' = s.w) → w'.rangeAt g7 0 (arr 16 x1).toList) := hide (by rintro _ ⟨s, rfl⟩; exact (R7.keep s.keep).all)
          have L22 : Hid (∀ w', (∃ s : KW w81, w' = s.w) → w'.rangeAt g22 0 (arr 16 t).toList) := hide (by rintro _ ⟨s, rfl⟩; exact (R22.keep s.keep).all)
          have KK := hide (And.intro O (And.intro R7 (And.intro R8 (And.intro R9 (And.intro R10 (And.intro R11 (And.intro R15 (And.intro R17 (And.intro R18 R22)))))))))
          clear O R7 R8 R9 R10 R11 R15 R17 R18 R22
          refine wp_region_keep_tail 5 (by kernel_rfl) (by kernel_rfl) ?_
          simp only [List.take_succ_cons, List.take_zero, List.drop_succ_cons, List.drop_zero]
          go_big_quiet_want
          refine quiet_part 35 _ rfl g7 0 rfl 16 x1 L7.out _ Try.underlying35 rfl inf35 ?_
          go_simp
          go_big_quiet_on
          go_big_quiet_want
          refine quiet_part 35 _ rfl g22 0 rfl 16 t L22.out _ Try.underlying35 rfl inf35 ?_
          go_simp
          go_big_quiet_on
          go_big_quiet_want
          refine quiet_part 35 _ rfl g22 0 rfl 16 t L22.out _ Try.underlying35 rfl inf35 ?_
          go_simp
          go_big_quiet_on
          go_big_quiet_step ((exact keep_of (F.out.h13 _)))
          go_big_quiet_step ((exact keep_of (F.out.h14 _)))
          refine wpQuiet_nil ?_
          intro q82
          obtain ⟨O, R7, R8, R9, R10, R11, R15, R17, R18, R22⟩ := KK.out
          have hb := q82.keep
          replace R7 := R7.keep hb
          replace R8 := R8.keep hb
          replace R9 := R9.keep hb
          replace R10 := R10.keep hb
          replace R11 := R11.keep hb
          replace R15 := R15.keep hb
          replace R17 := R17.keep hb
          replace R18 := R18.keep hb
          replace R22 := R22.keep hb
          replace O := O.trans (hb.mono O.size)
          clear hb
          clear KK hne L7 L22
          generalize q82.w = w82 at *
          refine wpList_put rfl R11 nz3 35 _ _ rfl (by kernel_rfl) (by kernel_rfl) inf35 ?_
          intro w83 R11 ho hu
          replace R7 := R7.at_ (ho _ (by omega))
          replace R8 := R8.at_ (ho _ (by omega))
          replace R9 := R9.at_ (ho _ (by omega))
          replace R10 := R10.at_ (ho _ (by omega))
          replace R15 := R15.at_ (ho _ (by omega))
          replace R17 := R17.at_ (ho _ (by omega))
          replace R18 := R18.at_ (ho _ (by omega))
          replace R22 := R22.at_ (ho _ (by omega))
          replace O := hu _ _ (by omega) O
          clear ho hu
          refine wpList_nil ?_
          go_simp
          clear R22
          go_upto_region 27 with fail
          refine wp_region_lit ?_
          refine wpList_part rfl 35 _ rfl g15 0 (by kernel_rfl) 16 aa R15.all _ Try.underlying35 rfl inf35 ?_
          refine wpList_part rfl 35 _ rfl g17 0 (by kernel_rfl) 16 dd R17.all _ Try.underlying35 rfl inf35 ?_
          refine wpList_call rfl 35 #[.agg (arr 16 aa), .agg (arr 16 dd)] (.agg (arr 16 nx2)) (fun _ => by kernel_rfl) F.out.h15 ?_
          intro w84 hb
          replace R7 := R7.keep hb
          replace R8 := R8.keep hb
          replace R9 := R9.keep hb
          replace R10 := R10.keep hb
          replace R11 := R11.keep hb
          replace R15 := R15.keep hb
          replace R17 := R17.keep hb
          replace R18 := R18.keep hb
          replace O := O.trans (hb.mono O.size)
          clear hb
          refine wpList_put rfl R8 nx2 35 _ _ rfl (by kernel_rfl) (by kernel_rfl) inf35 ?_
          intro w85 R8 ho hu
          replace R7 := R7.at_ (ho _ (by omega))
          replace R9 := R9.at_ (ho _ (by omega))
          replace R10 := R10.at_ (ho _ (by omega))
          replace R11 := R11.at_ (ho _ (by omega))
          replace R15 := R15.at_ (ho _ (by omega))
          replace R17 := R17.at_ (ho _ (by omega))
          replace R18 := R18.at_ (ho _ (by omega))
          replace O := hu _ _ (by omega) O
          clear ho hu
          refine wpList_nil ?_
          go_simp
          clear R17
          go_upto_region 28 with fail
          have hne := KW.some w85
          have L15 : Hid (∀ w', (∃ s : KW w85, w' = s.w) → w'.rangeAt g15 0 (arr 16 aa).toList) := hide (by rintro _ ⟨s, rfl⟩; exact (R15.keep s.keep).all)
          have L18 : Hid (∀ w', (∃ s : KW w85, w' = s.w) → w'.rangeAt g18 0 (arr 16 e).toList) := hide (by rintro _ ⟨s, rfl⟩; exact (R18.keep s.keep).all)
          have KK := hide (And.intro O (And.intro R7 (And.intro R8 (And.intro R9 (And.intro R10 (And.intro R11 (And.intro R15 R18)))))))
          clear O R7 R8 R9 R10 R11 R15 R18
          refine wp_region_keep_tail 7 (by kernel_rfl) (by kernel_rfl) ?_
          simp only [List.take_succ_cons, List.take_zero, List.drop_succ_cons, List.drop_zero]
          go_big_quiet_want
          refine quiet_part 35 _ rfl g18 0 rfl 16 e L18.out _ Try.underlying35 rfl inf35 ?_
          go_simp
          go_big_quiet_on
          go_big_quiet_want
          refine quiet_part 35 _ rfl g15 0 rfl 16 aa L15.out _ Try.underlying35 rfl inf35 ?_
          go_simp
          go_big_quiet_on
          go_big_quiet_step ((exact keep_of (F.out.h16 _)))
          go_big_quiet_want
          refine quiet_part 35 _ rfl g18 0 rfl 16 e L18.out _ Try.underlying35 rfl inf35 ?_
          go_simp
          go_big_quiet_on
          go_big_quiet_step ((exact keep_of (F.out.h17 _)))
          go_big_quiet_step ((exact keep_of (F.out.h18 _)))
          go_big_quiet_step ((exact keep_of (F.out.h19 _)))
          refine wpQuiet_nil ?_
          intro q86
          obtain ⟨O, R7, R8, R9, R10, R11, R15, R18⟩ := KK.out
          have hb := q86.keep
          replace R7 := R7.keep hb
          replace R8 := R8.keep hb
          replace R9 := R9.keep hb
          replace R10 := R10.keep hb
          replace R11 := R11.keep hb
          replace R15 := R15.keep hb
          replace R18 := R18.keep hb
          replace O := O.trans (hb.mono O.size)
          clear hb
          clear KK hne L15 L18
          generalize q86.w = w86 at *
          refine wpList_put rfl R9 nz2 35 _ _ rfl (by kernel_rfl) (by kernel_rfl) inf35 ?_
          intro w87 R9 ho hu
          replace R7 := R7.at_ (ho _ (by omega))
          replace R8 := R8.at_ (ho _ (by omega))
          replace R10 := R10.at_ (ho _ (by omega))
          replace R11 := R11.at_ (ho _ (by omega))
          replace R15 := R15.at_ (ho _ (by omega))
          replace R18 := R18.at_ (ho _ (by omega))
          replace O := hu _ _ (by omega) O
          clear ho hu
          refine wpList_nil ?_
          go_simp
          clear R15 R18
          go_upto_region 30 with fail
          refine wp_region_lit ?_
          refine wpList_part rfl 35 _ rfl g10 0 (by kernel_rfl) 16 nx3 R10.all _ Try.underlying35 rfl inf35 ?_
          refine wpList_part rfl 35 _ rfl g8 0 (by kernel_rfl) 16 nx2 R8.all _ Try.underlying35 rfl inf35 ?_
          refine wpList_put rfl R8 nx3 35 _ _ rfl (by kernel_rfl) (by kernel_rfl) inf35 ?_
          intro w88 R8 ho hu
          replace R7 := R7.at_ (ho _ (by omega))
          replace R9 := R9.at_ (ho _ (by omega))
          replace R10 := R10.at_ (ho _ (by omega))
          replace R11 := R11.at_ (ho _ (by omega))
          replace O := hu _ _ (by omega) O
          clear ho hu
          refine wpList_put rfl R10 nx2 35 _ _ rfl (by kernel_rfl) (by kernel_rfl) inf35 ?_
          intro w89 R10 ho hu
          replace R7 := R7.at_ (ho _ (by omega))
          replace R8 := R8.at_ (ho _ (by omega))
          replace R9 := R9.at_ (ho _ (by omega))
          replace R11 := R11.at_ (ho _ (by omega))
          replace O := hu _ _ (by omega) O
          clear ho hu
          refine wpList_nil ?_
          go_simp
          go_upto_region 31 with fail
          refine wp_region_lit ?_
          refine wpList_part rfl 35 _ rfl g11 0 (by kernel_rfl) 16 nz3 R11.all _ Try.underlying35 rfl inf35 ?_
          refine wpList_part rfl 35 _ rfl g9 0 (by kernel_rfl) 16 nz2 R9.all _ Try.underlying35 rfl inf35 ?_
          refine wpList_put rfl R9 nz3 35 _ _ rfl (by kernel_rfl) (by kernel_rfl) inf35 ?_
          intro w90 R9 ho hu
          replace R7 := R7.at_ (ho _ (by omega))
          replace R8 := R8.at_ (ho _ (by omega))
          replace R10 := R10.at_ (ho _ (by omega))
          replace R11 := R11.at_ (ho _ (by omega))
          replace O := hu _ _ (by omega) O
          clear ho hu
          refine wpList_put rfl R11 nz2 35 _ _ rfl (by kernel_rfl) (by kernel_rfl) inf35 ?_
          intro w91 R11 ho hu
          replace R7 := R7.at_ (ho _ (by omega))
          replace R8 := R8.at_ (ho _ (by omega))
          replace R9 := R9.at_ (ho _ (by omega))
          replace R10 := R10.at_ (ho _ (by omega))
          replace O := hu _ _ (by omega) O
          clear ho hu
          refine wpList_nil ?_
          go_simp
          go_wp2_with fail
          rw [← T1.out] at R8
          rw [← T2.out] at R9
          rw [← T3.out] at R10
          rw [← T4.out] at R11
          clear F T1 T2 T3 T4
          have hx1 := HX1.out
          clear HX1
          subst hx1
          first | exact ⟨⟨p, by omega, ⟨_, rfl, rfl⟩, R7, R8, R9, R10, R11, O⟩, by simp [intOf]⟩ | (go_roundw; (case rel => exact ⟨p, by omega, ⟨_, rfl, rfl⟩, R7, R8, R9, R10, R11, O⟩); (case measure => simp [intOf]))

end Go.Proofs.Ytiiniodidkfbiaa
