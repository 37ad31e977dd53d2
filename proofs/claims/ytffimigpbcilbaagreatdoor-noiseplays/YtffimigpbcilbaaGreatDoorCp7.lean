/- Part 7 of the walks and facts. -/
import Derived.Test.YtffimigpbcilbaaGreatDoorCpDef
import Derived.Test.YtffimigpbcilbaaGreatDoorCp6
import Derived.Deep.Cut
set_option maxHeartbeats 16000000
set_option maxRecDepth 100000
namespace Go.Proofs.YtffimigpbcilbaaGreatDoor.Mon
open Go.RowKit
theorem neg_zero {a : NI} (h : eqw a (fun _ => 0) 0 16 = true) : arr 16 (d16 ((- S a 16) % Pm)) = arr 16 a := by
 have hz := (eqw_iff a (fun _ => 0) 16 0).1 h
 have e : S a 16 = 0 := by rw [S_congr (g := fun _ => 0) fun i hi => hz i (by omega) (by omega), S_zero]
 rw [e]
 refine arr_congr fun i hi => ?_
 rw [hz i (by omega) (by omega)]
 simp [d16]
theorem neg_some {a : NI} (ha : Dig a 16) (hlt : S a 16 < Pm) (h : eqw a (fun _ => 0) 0 16 = false) : arr 16 (d16 ((- S a 16) % Pm)) = arr 16 (minusF pF a) := by
 have hm : S (minusF pF a) 16 = Pm - S a 16 := by rw [minus_le pF_dig ha (by rw [pF_S]; omega), pF_S]
 have h0 := (S_bd ha).1
 have hne : S a 16 ≠ 0 := by
  intro e
  have hz : ∀ i, i < 16 → a i = 0 := fun i hi => S_inj (f := a) (g := fun _ => 0) ha (fun _ _ => ⟨Int.le_refl 0, (by decide : (0 : Int) < 65536)⟩) (by rw [e, S_zero]) i hi
  have := (eqw_iff a (fun _ => 0) 16 0).2 fun i _ hi => hz i (by omega)
  rw [this] at h
  cases h
 exact fin_eq (minusF_dig pF a 16) (by rw [hm]; exact ⟨1, by omega⟩) (by rw [hm]; omega)
theorem rneg_any (a : NI) (w : World) (ha : Dig a 16) (hlt : S a 16 < Pm) : Cs 62 #[.agg (arr 16 a)] w (.agg (arr 16 (d16 ((- S a 16) % Pm)))) := by
 have hgu : Tryz.prog.eqGuardType Tryz.prog.depth 88 = false := by kernel_rfl
 have he : ∀ w, (binOp .eql 88 (.agg (arr 16 a)) (.agg #[Value.int .u64 0, Value.int .u64 0, Value.int .u64 0, Value.int .u64 0, Value.int .u64 0, Value.int .u64 0, Value.int .u64 0, Value.int .u64 0, Value.int .u64 0, Value.int .u64 0, Value.int .u64 0, Value.int .u64 0, Value.int .u64 0, Value.int .u64 0, Value.int .u64 0, Value.int .u64 0])).run Tryz.prog w = .ok (.bool (eqw a (fun _ => 0) 0 16)) w := fun w => run_eql_words 88 16 a (fun _ => 0) w Tryz.underlying88
 have R1 : Row ((w.alloc (.cells (arr 16 a) 88)).alloc (.cells #[Value.int .u64 0, Value.int .u64 0, Value.int .u64 0, Value.int .u64 0, Value.int .u64 0, Value.int .u64 0, Value.int .u64 0, Value.int .u64 0, Value.int .u64 0, Value.int .u64 0, Value.int .u64 0, Value.int .u64 0, Value.int .u64 0, Value.int .u64 0, Value.int .u64 0, Value.int .u64 0] 88)) w.heap.size 88 16 a := (Row.new w 88 16 a).alloc _
 have R3 : Row ((w.alloc (.cells (arr 16 a) 88)).alloc (.cells #[Value.int .u64 0, Value.int .u64 0, Value.int .u64 0, Value.int .u64 0, Value.int .u64 0, Value.int .u64 0, Value.int .u64 0, Value.int .u64 0, Value.int .u64 0, Value.int .u64 0, Value.int .u64 0, Value.int .u64 0, Value.int .u64 0, Value.int .u64 0, Value.int .u64 0, Value.int .u64 0] 88)) (w.heap.size + 1) 88 16 (fun _ => 0) := Row.new' _ 88 16 (fun _ => 0) (by simp)
 have O : Below w.heap.size w ((w.alloc (.cells (arr 16 a) 88)).alloc (.cells #[Value.int .u64 0, Value.int .u64 0, Value.int .u64 0, Value.int .u64 0, Value.int .u64 0, Value.int .u64 0, Value.int .u64 0, Value.int .u64 0, Value.int .u64 0, Value.int .u64 0, Value.int .u64 0, Value.int .u64 0, Value.int .u64 0, Value.int .u64 0, Value.int .u64 0, Value.int .u64 0] 88)) := ((Below.refl _ _).alloc (Nat.le_refl _) _).alloc (by simp) _
 have H1 := hide R1
 have H3 := hide R3
 have H4 := hide O
 clear R1 R3 O
 cases hz : eqw a (fun _ => 0) 0 16
 ·rw [hz] at he
  have HE := hide (neg_some ha hlt hz)
  clear hz
  go_enter Tryz.func62, Tryz.ntmps62
  go_wp2_with (refine wpList_load_row rfl 88 _ rfl w.heap.size rfl 88 (arr 16 a) (0, 0) _ H1.out Tryz.underlying88 rfl (info88 _) ?_)
  try rw [show ∀ (a : Act) (v : Value), a.put none v = a from fun _ _ => rfl]
  have R1 := H1.out
  have R3 := H3.out
  have O := H4.out
  clear H1 H3 H4
  generalize (w.alloc (.cells (arr 16 a) 88)).alloc (.cells #[Value.int .u64 0, Value.int .u64 0, Value.int .u64 0, Value.int .u64 0, Value.int .u64 0, Value.int .u64 0, Value.int .u64 0, Value.int .u64 0, Value.int .u64 0, Value.int .u64 0, Value.int .u64 0, Value.int .u64 0, Value.int .u64 0, Value.int .u64 0, Value.int .u64 0, Value.int .u64 0] 88) = W at *
  have hne := KW.some W
  have hg3 : ∀ w', (∃ s : KW W, w' = s.w) → w'.heap[w.heap.size]? = some (.cells (arr 16 a) 88 (0, 0)) := by
   rintro _ ⟨s, rfl⟩
   exact R1.keep s.keep
  have HG := hide hg3
  clear hg3 R1 he hgu
  refine wp_region_keep_tail 3 (by kernel_rfl) (by kernel_rfl) ?_
  simp only [List.take_succ_cons, List.take_zero, List.drop_succ_cons, List.drop_zero]
  go_big_quiet_step ((exact keep_of (prime_any _)))
  go_big_quiet_want
  refine quiet_load_row 88 _ rfl w.heap.size rfl 88 (arr 16 a) (0, 0) _ HG.out Tryz.underlying88 rfl (info88 _) ?_
  go_simp
  go_big_quiet_on
  go_big_quiet_step ((exact keep_of (minus_any pF a _ pF_dig ha)))
  refine wpQuiet_nil ?_
  intro s
  replace R3 := R3.keep s.keep
  replace O := O.trans (s.keep.mono O.size)
  generalize s.w = W8 at R3 O ⊢
  have RR := hide (R3.setAll (minusF pF a))
  have OO := hide (below_setCells (g := w.heap.size + 1) (by omega) (arr 16 (minusF pF a)).toList 0 O)
  clear HG hne
  go_wp2_with (refine wpList_store_mid rfl 88 _ _ rfl (w.heap.size + 1) 0 (arr 16 (minusF pF a)) rfl rfl (by rw [arr_size]; exact R3.there) (info88 _) (arr_one _ _) ?_)
  exact bodyPost_ret (v := .agg (arr 16 (minusF pF a))) (results_cell_row Tryz.results62 _ _ (w.heap.size + 1) 88 (arr 16 (minusF pF a)) (0, 0) _ rfl RR.out Tryz.underlying88 rfl (info88 _)) rfl ⟨by rw [HE.out], OO.out⟩
 ·rw [hz] at he
  have HE := hide (neg_zero hz)
  clear hz
  have RR := hide (H3.out.setAll a)
  have OO := hide (below_setCells (g := w.heap.size + 1) (by omega) (arr 16 a).toList 0 H4.out)
  go_enter Tryz.func62, Tryz.ntmps62
  go_wp2_with (first | (refine wpList_load_row rfl 88 _ rfl w.heap.size rfl 88 (arr 16 a) (0, 0) _ H1.out Tryz.underlying88 rfl (info88 _) ?_) | (refine wpList_store_mid rfl 88 _ _ rfl (w.heap.size + 1) 0 (arr 16 a) rfl rfl (by rw [arr_size]; exact H3.out.there) (info88 _) (arr_one _ _) ?_))
  exact bodyPost_ret (v := .agg (arr 16 a)) (results_cell_row Tryz.results62 _ _ (w.heap.size + 1) 88 (arr 16 a) (0, 0) _ rfl RR.out Tryz.underlying88 rfl (info88 _)) rfl ⟨by rw [HE.out], OO.out⟩
theorem sub_val {a b : NI} : (S a 16 + S (d16 ((- S b 16) % Pm)) 16) % Pm = (S a 16 - S b 16) % Pm := by
 have h0 : 0 ≤ (- S b 16) % Pm := Int.emod_nonneg _ (by decide)
 have h1 : (- S b 16) % Pm < Pm := Int.emod_lt_of_pos _ (by decide)
 have hP : Pm < 65536 ^ 16 := by decide
 rw [d16_S _ h0, Int.emod_eq_of_lt h0 (by omega)]
 exact ((Cg.refl (S a 16)).add (cg_emod (- S b 16))).emod
theorem rsub_any (a b : NI) (w : World) (ha : Dig a 16) (hb : Dig b 16) (hlt : S b 16 < Pm) : Cs 42 #[.agg (arr 16 a), .agg (arr 16 b)] w (.agg (arr 16 (d16 ((S a 16 - S b 16) % Pm)))) := by
 have hcall : ∀ w, Cs 40 #[.agg (arr 16 a), .agg (arr 16 (d16 ((- S b 16) % Pm)))] w (.agg (arr 16 (d16 ((S a 16 - S b 16) % Pm)))) := fun w => by
  have := radd_any a (d16 ((- S b 16) % Pm)) w ha (d16_dig _ 16)
  rwa [sub_val] at this
 have HC := hide hcall
 clear hcall
 have R1 : Row (((w.alloc (.cells (arr 16 a) 88)).alloc (.cells (arr 16 b) 88)).alloc (.cells #[Value.int .u64 0, Value.int .u64 0, Value.int .u64 0, Value.int .u64 0, Value.int .u64 0, Value.int .u64 0, Value.int .u64 0, Value.int .u64 0, Value.int .u64 0, Value.int .u64 0, Value.int .u64 0, Value.int .u64 0, Value.int .u64 0, Value.int .u64 0, Value.int .u64 0, Value.int .u64 0] 88)) w.heap.size 88 16 a := ((Row.new w 88 16 a).alloc _).alloc _
 have R2 : Row (((w.alloc (.cells (arr 16 a) 88)).alloc (.cells (arr 16 b) 88)).alloc (.cells #[Value.int .u64 0, Value.int .u64 0, Value.int .u64 0, Value.int .u64 0, Value.int .u64 0, Value.int .u64 0, Value.int .u64 0, Value.int .u64 0, Value.int .u64 0, Value.int .u64 0, Value.int .u64 0, Value.int .u64 0, Value.int .u64 0, Value.int .u64 0, Value.int .u64 0, Value.int .u64 0] 88)) (w.heap.size + 1) 88 16 b := (Row.new' _ 88 16 _ (by simp)).alloc _
 have R3 : Row (((w.alloc (.cells (arr 16 a) 88)).alloc (.cells (arr 16 b) 88)).alloc (.cells #[Value.int .u64 0, Value.int .u64 0, Value.int .u64 0, Value.int .u64 0, Value.int .u64 0, Value.int .u64 0, Value.int .u64 0, Value.int .u64 0, Value.int .u64 0, Value.int .u64 0, Value.int .u64 0, Value.int .u64 0, Value.int .u64 0, Value.int .u64 0, Value.int .u64 0, Value.int .u64 0] 88)) (w.heap.size + 1 + 1) 88 16 (fun _ => 0) := Row.new' _ 88 16 (fun _ => 0) (by simp)
 have O : Below w.heap.size w (((w.alloc (.cells (arr 16 a) 88)).alloc (.cells (arr 16 b) 88)).alloc (.cells #[Value.int .u64 0, Value.int .u64 0, Value.int .u64 0, Value.int .u64 0, Value.int .u64 0, Value.int .u64 0, Value.int .u64 0, Value.int .u64 0, Value.int .u64 0, Value.int .u64 0, Value.int .u64 0, Value.int .u64 0, Value.int .u64 0, Value.int .u64 0, Value.int .u64 0, Value.int .u64 0] 88)) := (((Below.refl _ _).alloc (Nat.le_refl _) _).alloc (by simp) _).alloc (by simp; omega) _
 go_enter Tryz.func42, Tryz.ntmps42
 go_wp2_with fail
 generalize ((w.alloc (.cells (arr 16 a) 88)).alloc (.cells (arr 16 b) 88)).alloc (.cells #[Value.int .u64 0, Value.int .u64 0, Value.int .u64 0, Value.int .u64 0, Value.int .u64 0, Value.int .u64 0, Value.int .u64 0, Value.int .u64 0, Value.int .u64 0, Value.int .u64 0, Value.int .u64 0, Value.int .u64 0, Value.int .u64 0, Value.int .u64 0, Value.int .u64 0, Value.int .u64 0] 88) = W at *
 have hne := KW.some W
 have hg1 : ∀ w', (∃ s : KW W, w' = s.w) → w'.heap[w.heap.size]? = some (.cells (arr 16 a) 88 (0, 0)) := by
  rintro _ ⟨s, rfl⟩
  exact R1.keep s.keep
 have hg2 : ∀ w', (∃ s : KW W, w' = s.w) → w'.heap[w.heap.size + 1]? = some (.cells (arr 16 b) 88 (0, 0)) := by
  rintro _ ⟨s, rfl⟩
  exact R2.keep s.keep
 have HG1 := hide hg1
 have HG2 := hide hg2
 clear hg1 hg2 R1 R2
 refine wp_region_keep_tail 4 (by kernel_rfl) (by kernel_rfl) ?_
 simp only [List.take_succ_cons, List.take_zero, List.drop_succ_cons, List.drop_zero]
 go_big_quiet_want
 refine quiet_load_row 88 _ rfl w.heap.size rfl 88 (arr 16 a) (0, 0) _ HG1.out Tryz.underlying88 rfl (info88 _) ?_
 go_simp
 go_big_quiet_on
 go_big_quiet_want
 refine quiet_load_row 88 _ rfl (w.heap.size + 1) rfl 88 (arr 16 b) (0, 0) _ HG2.out Tryz.underlying88 rfl (info88 _) ?_
 go_simp
 go_big_quiet_on
 go_big_quiet_step ((exact keep_of (rneg_any b _ hb hlt)))
 go_big_quiet_step ((exact keep_of (HC.out _)))
 refine wpQuiet_nil ?_
 intro s
 replace R3 := R3.keep s.keep
 replace O := O.trans (s.keep.mono O.size)
 generalize s.w = W8 at R3 O ⊢
 have RR := hide (R3.setAll (d16 ((S a 16 - S b 16) % Pm)))
 have OO := hide (below_setCells (g := w.heap.size + 1 + 1) (by omega) (arr 16 (d16 ((S a 16 - S b 16) % Pm))).toList 0 O)
 clear HG1 HG2 hne HC
 go_wp2_with (refine wpList_store_mid rfl 88 _ _ rfl (w.heap.size + 1 + 1) 0 (arr 16 (d16 ((S a 16 - S b 16) % Pm))) rfl rfl (by rw [arr_size]; exact R3.there) (info88 _) (arr_one _ _) ?_)
 exact bodyPost_ret (v := .agg (arr 16 (d16 ((S a 16 - S b 16) % Pm)))) (results_cell_row Tryz.results42 _ _ (w.heap.size + 1 + 1) 88 (arr 16 (d16 ((S a 16 - S b 16) % Pm))) (0, 0) _ rfl RR.out Tryz.underlying88 rfl (info88 _)) rfl ⟨rfl, OO.out⟩
open Go.RowKit
def E5.f (x : E5) : Nat → Int := fun i => [x.a, x.b, x.c, x.d, x.e].getD i 0
def pj (x z : NI) : Nat → Int := fun i => if i < 5 then x i else z (i - 5)
section
variable {P : Program} {ops : Array Oper} {W : World} {Q : Act → Prop}
end
theorem results_two {P : Program} {fn : Func} {p q : Tmp} {ty tz : TypeId} (h : fn.results = #[.cell p ty, .cell q tz]) (tmps : Array Value) (w : World) (g k : Nat) (t t' : TypeId) (cs cs' : Array Value) (fr fr' : Nat × Nat) (d d' : TypeDesc)
  (hp : tmps.getD p undef = .pointer (some ⟨g, 0, none⟩)) (hq : tmps.getD q undef = .pointer (some ⟨k, 0, none⟩)) (hg : w.heap[g]? = some (.cells cs t fr)) (hk : w.heap[k]? = some (.cells cs' t' fr'))
  (hu : P.underlying ty = some d) (hd : (match d with | .struct _ | .array _ _ => true | _ => false) = true) (hi : (P.info? ty).map (·.size) = some cs.size)
  (hu' : P.underlying tz = some d') (hd' : (match d' with | .struct _ | .array _ _ => true | _ => false) = true) (hi' : (P.info? tz).map (·.size) = some cs'.size) :
  (results fn tmps).run P w = .ok (.tuple #[.agg cs, .agg cs']) w := by
 have hp' : tmps[p]?.getD undef = .pointer (some ⟨g, 0, none⟩) := by simpa using hp
 have hq' : tmps[q]?.getD undef = .pointer (some ⟨k, 0, none⟩) := by simpa using hq
 simp [results, h, hp', hq', asAddr, run_loadVar_row w g t ty cs fr d hg hu hd hi, run_loadVar_row w k t' tz cs' fr' d' hk hu' hd' hi']
open Go.RowKit
structure St where
 dx : E5
 dz : E5
 px : E5
 pz : E5
def stepF (ax az bx bz x : E5) : St :=
 let sm := addF ax az
 let df := subF ax az
 let aa := mulF sm sm
 let bb := mulF df df
 let ee := subF aa bb
 let da := mulF (subF bx bz) sm
 let cb := mulF (addF bx bz) df
 let ps := addF da cb
 let ms := subF da cb
 ⟨mulF aa bb, mulF ee (addF aa (mulF (smallF 121665) ee)), mulF ps ps, mulF x (mulF ms ms)⟩
structure St.Ok (s : St) : Prop where
 dx : s.dx.Ok
 dz : s.dz.Ok
 px : s.px.Ok
 pz : s.pz.Ok
theorem stepF_ok {ax az bx bz x : E5} (h1 : ax.Ok) (h2 : az.Ok) (h3 : bx.Ok) (h4 : bz.Ok) (h5 : x.Ok) : (stepF ax az bx bz x).Ok := by
 have k1 := addF_ok h1 h2
 have k2 := subF_ok h1 h2
 have k3 := mulF_ok k1 k1
 have k4 := mulF_ok k2 k2
 have k5 := subF_ok k3 k4
 have k6 := mulF_ok (subF_ok h3 h4) k1
 have k7 := mulF_ok (addF_ok h3 h4) k2
 have k8 := addF_ok k6 k7
 have k9 := subF_ok k6 k7
 have k0 := smallF_ok (n := 121665) (by decide) (by decide)
 exact ⟨mulF_ok k3 k4, mulF_ok k5 (addF_ok k3 (mulF_ok k0 k5)), mulF_ok k8 k8, mulF_ok h5 (mulF_ok k9 k9)⟩
theorem and1u {x : Int} (h0 : 0 ≤ x) (h1 : x < 256) : bits .and .u8 x 1 = x % 2 := by
 obtain ⟨X, rfl⟩ := Int.eq_ofNat_of_zero_le h0
 have hX : X < 256 := by omega
 have h : ∀ n : Fin 256, bits .and .u8 ((n.val : Nat) : Int) 1 = ((n.val : Nat) : Int) % 2 := by decide +kernel
 exact h ⟨X, hX⟩
def bit (s : Yb) (i : Nat) : Int := bt s (i / 8) / 2 ^ (i % 8) % 2
theorem bit_two (s : Yb) (i : Nat) : bit s i = 0 ∨ bit s i = 1 := by unfold bit; omega
theorem bitAt_any (s : Yb) (p : Nat) (w : World) (hs : p < 8 * s.size) (hp : p < 255) : Cs 91 #[.string s, .int .i64 (p : Int)] w (.int .i64 (bit s p)) := by
 have a1 : (0 : Int) ≤ (p : Int) / 8 := by omega
 have a2 : (p : Int) / 8 < (s.size : Int) := by omega
 have a4 : p / 8 < s.size := by omega
 have a5 := bt_at s (p / 8) a4
 have a6 := bt_bd s (p / 8)
 have HB := hide (show bit s p = bt s (p / 8) / 2 ^ (p % 8) % 2 from rfl)
 rcases (show p % 8 = 0 ∨ p % 8 = 1 ∨ p % 8 = 2 ∨ p % 8 = 3 ∨ p % 8 = 4 ∨ p % 8 = 5 ∨ p % 8 = 6 ∨ p % 8 = 7 by omega) with h8 | h8 | h8 | h8 | h8 | h8 | h8 | h8
 ·have a3 : (p : Int) % 8 = 0 := by omega
  have eb : bits BinOp.and IntKind.u8 (bt s (p / 8)) 1 = bt s (p / 8) % 2 := and1u (by omega) (by omega)
  have HV := hide (show bit s p = bt s (p / 8) % 2 by rw [HB.out, h8]; simp)
  clear h8 HB
  go_enter Tryz.func91, Tryz.ntmps91
  go_wp2
  go_ret
  exact ⟨by rw [HV.out]; rfl, Below.refl _ _⟩
 ·have a3 : (p : Int) % 8 = 1 := by omega
  have eb : bits BinOp.and IntKind.u8 (bt s (p / 8) / 2) 1 = bt s (p / 8) / 2 % 2 := and1u (by omega) (by omega)
  have HV := hide (show bit s p = bt s (p / 8) / 2 % 2 by rw [HB.out, h8]; simp)
  clear h8 HB
  go_enter Tryz.func91, Tryz.ntmps91
  go_wp2
  go_ret
  exact ⟨by rw [HV.out]; rfl, Below.refl _ _⟩
 ·have a3 : (p : Int) % 8 = 2 := by omega
  have eb : bits BinOp.and IntKind.u8 (bt s (p / 8) / 4) 1 = bt s (p / 8) / 4 % 2 := and1u (by omega) (by omega)
  have HV := hide (show bit s p = bt s (p / 8) / 4 % 2 by rw [HB.out, h8]; simp)
  clear h8 HB
  go_enter Tryz.func91, Tryz.ntmps91
  go_wp2
  go_ret
  exact ⟨by rw [HV.out]; rfl, Below.refl _ _⟩
 ·have a3 : (p : Int) % 8 = 3 := by omega
  have eb : bits BinOp.and IntKind.u8 (bt s (p / 8) / 8) 1 = bt s (p / 8) / 8 % 2 := and1u (by omega) (by omega)
  have HV := hide (show bit s p = bt s (p / 8) / 8 % 2 by rw [HB.out, h8]; simp)
  clear h8 HB
  go_enter Tryz.func91, Tryz.ntmps91
  go_wp2
  go_ret
  exact ⟨by rw [HV.out]; rfl, Below.refl _ _⟩
 ·have a3 : (p : Int) % 8 = 4 := by omega
  have eb : bits BinOp.and IntKind.u8 (bt s (p / 8) / 16) 1 = bt s (p / 8) / 16 % 2 := and1u (by omega) (by omega)
  have HV := hide (show bit s p = bt s (p / 8) / 16 % 2 by rw [HB.out, h8]; simp)
  clear h8 HB
  go_enter Tryz.func91, Tryz.ntmps91
  go_wp2
  go_ret
  exact ⟨by rw [HV.out]; rfl, Below.refl _ _⟩
 ·have a3 : (p : Int) % 8 = 5 := by omega
  have eb : bits BinOp.and IntKind.u8 (bt s (p / 8) / 32) 1 = bt s (p / 8) / 32 % 2 := and1u (by omega) (by omega)
  have HV := hide (show bit s p = bt s (p / 8) / 32 % 2 by rw [HB.out, h8]; simp)
  clear h8 HB
  go_enter Tryz.func91, Tryz.ntmps91
  go_wp2
  go_ret
  exact ⟨by rw [HV.out]; rfl, Below.refl _ _⟩
 ·have a3 : (p : Int) % 8 = 6 := by omega
  have eb : bits BinOp.and IntKind.u8 (bt s (p / 8) / 64) 1 = bt s (p / 8) / 64 % 2 := and1u (by omega) (by omega)
  have HV := hide (show bit s p = bt s (p / 8) / 64 % 2 by rw [HB.out, h8]; simp)
  clear h8 HB
  go_enter Tryz.func91, Tryz.ntmps91
  go_wp2
  go_ret
  exact ⟨by rw [HV.out]; rfl, Below.refl _ _⟩
 ·have a3 : (p : Int) % 8 = 7 := by omega
  have eb : bits BinOp.and IntKind.u8 (bt s (p / 8) / 128) 1 = bt s (p / 8) / 128 % 2 := and1u (by omega) (by omega)
  have HV := hide (show bit s p = bt s (p / 8) / 128 % 2 by rw [HB.out, h8]; simp)
  clear h8 HB
  go_enter Tryz.func91, Tryz.ntmps91
  go_wp2
  go_ret
  exact ⟨by rw [HV.out]; rfl, Below.refl _ _⟩
open Go.RowKit
section
variable {P : Program} {ops : Array Oper} {md : Region.Mode} {Q : Exit → Act → World → Prop}
end
def ladF (s : Yb) (x : E5) : Nat → St
 | 0 => ⟨smallF 1, zeroE, x, smallF 1⟩
 | k + 1 => if bit s (254 - k) = 0 then stepF (ladF s x k).dx (ladF s x k).dz (ladF s x k).px (ladF s x k).pz x
  else ⟨(stepF (ladF s x k).px (ladF s x k).pz (ladF s x k).dx (ladF s x k).dz x).px, (stepF (ladF s x k).px (ladF s x k).pz (ladF s x k).dx (ladF s x k).dz x).pz, (stepF (ladF s x k).px (ladF s x k).pz (ladF s x k).dx (ladF s x k).dz x).dx, (stepF (ladF s x k).px (ladF s x k).pz (ladF s x k).dx (ladF s x k).dz x).dz⟩
theorem ladF_ok (s : Yb) {x : E5} (hx : x.Ok) : ∀ k, (ladF s x k).Ok
 | 0 => ⟨smallF_ok (by decide) (by decide), zeroE_ok, hx, smallF_ok (by decide) (by decide)⟩
 | k + 1 => by
  have ih := ladF_ok s hx k
  unfold ladF
  by_cases h : bit s (254 - k) = 0
  ·rw [if_pos h]
   exact stepF_ok ih.dx ih.dz ih.px ih.pz hx
  ·rw [if_neg h]
   have := stepF_ok ih.px ih.pz ih.dx ih.dz hx
   exact ⟨this.px, this.pz, this.dx, this.dz⟩
def qj (p q : NI) : Nat → Int := fun i => if i < 10 then p i else q (i - 10)
open Go.RowKit
theorem bt_bs (l : List Int) (i : Nat) (x : Int) (hl : l[i]? = some x) (h0 : 0 ≤ x) (h1 : x < 256) : bt (bs l) i = x := by
 unfold bt bs
 simp only [List.getElem?_toArray, List.getElem?_map, hl, Option.map_some, Option.getD_some]
 simp only [UInt8.toNat_ofNat']
 omega
structure BC (W : World) (g : Nat) (f : NI) (n : Nat) : Prop where
 lt : g < W.heap.size
 c : ∀ i, i < n → W.cell? ⟨g, i, none⟩ = some (.int .u8 (f i))
 fz : ∀ i, i < n → W.frozen? ⟨g, i, none⟩ = false
theorem heap_setCell_size (W : World) (a : Addr) (v : Value) : (W.setCell a v).heap.size = W.heap.size := by
 simp
theorem BC.set {W : World} {g n : Nat} {f : NI} (h : BC W g f n) {k : Nat} (hk : k < n) (v : Int) : BC (W.setCell ⟨g, k, none⟩ (.int .u8 v)) g (upd f k v) n where
 lt := by rw [heap_setCell_size]; exact h.lt
 c := fun i hi => by
  by_cases e : i = k
  ·subst e
   rw [World.cell?_setCell_same _ _ _ (h.c i hk)]
   simp [upd]
  ·rw [World.cell?_setCell_other _ _ _ _ (by simp <;> omega), h.c i hi]
   simp [upd, e]
 fz := fun i hi => by
  rw [World.frozen?_setCell]
  exact h.fz i hi
theorem row_frozen (w : World) (g j : Nat) (cs : Array Value) (t : TypeId) (hg : w.heap[g]? = some (.cells cs t (cs.size, cs.size + 1))) (hj : j < cs.size) : w.frozen? ⟨g, j, none⟩ = false := by
 unfold World.frozen?
 rw [hg]
 simp
 omega
theorem conv_str (W : World) (s : Yb) : ∃ (cap : Nat) (W1 : World), (convert 9 61 (.string s)).run Tryz.prog W = .ok (.slice (some ⟨W.heap.size, 0, none⟩) s.size cap) W1 ∧ BC W1 W.heap.size (bt s) s.size ∧ Below W.heap.size W W1 := by
 have h := run_bytes_of_string (P := Tryz.prog) W 9 61 5 s Tryz.underlying9 Tryz.underlying61 Tryz.underlying5
 generalize grownCap W s.size 0 5 = cap at h
 refine ⟨cap, _, h, ?_, ((Below.refl _ _).drew).alloc (Nat.le_refl _) _⟩
 have hg : (W.drew.alloc (.cells (bytesRow s cap) 5 ((bytesRow s cap).size, (bytesRow s cap).size + 1))).heap[W.heap.size]? = some (.cells (bytesRow s cap) 5 ((bytesRow s cap).size, (bytesRow s cap).size + 1)) := heap_alloc_new W.drew _
 have hsz : s.size ≤ (bytesRow s cap).size := by
  simp [bytesRow]
 refine ⟨by simp, fun i hi => ?_, fun i hi => row_frozen _ _ _ _ _ hg (by omega)⟩
 rw [cell_of_row _ _ _ _ _ _ hg]
 have hi' : i < s.data.size := hi
 unfold bytesRow bt
 rw [Array.getElem?_append_left (by simpa using hi'), Array.getElem?_map, Array.getElem?_eq_getElem hi']
 rfl
theorem conv_back {W : World} {g n : Nat} {f : NI} (h : BC W g f n) (cap : Nat) (hf : ∀ i, i < n → 0 ≤ f i ∧ f i < 256) :
  (convert 61 9 (.slice (some ⟨g, 0, none⟩) n cap)).run Tryz.prog W = .ok (.string (bs ((List.range n).map f))) W := by
 have hl : ((List.range n).map fun i => UInt8.ofNat (f i).toNat).length = n := by simp
 have h2 := run_convert_bytes_back (P := Tryz.prog) W 61 9 5 ⟨g, 0, none⟩ cap ((List.range n).map fun i => UInt8.ofNat (f i).toNat) Tryz.underlying61 Tryz.underlying5 Tryz.underlying9 (fun j hj => by
  rw [hl] at hj
  have hadd : (⟨g, 0, none⟩ : Addr).add j = ⟨g, j, none⟩ := by unfold Addr.add; split <;> simp_all
  rw [hadd, h.c j hj]
  have := hf j hj
  simp
  omega)
 rw [hl] at h2
 rw [h2]
 unfold bs
 congr 3
 simp [List.map_map]
theorem and_bd {x : Int} (h0 : 0 ≤ x) (h1 : x < 256) : 0 ≤ bits .and .u8 x 248 ∧ bits .and .u8 x 248 < 256 := by
 obtain ⟨X, rfl⟩ := Int.eq_ofNat_of_zero_le h0
 have hX : X < 256 := by omega
 have h : ∀ n : Fin 256, 0 ≤ bits .and .u8 ((n.val : Nat) : Int) 248 ∧ bits .and .u8 ((n.val : Nat) : Int) 248 < 256 := by decide +kernel
 exact h ⟨X, hX⟩
theorem or_bd {x : Int} (h0 : 0 ≤ x) (h1 : x < 256) : 0 ≤ bits .or .u8 (bits .and .u8 x 127) 64 ∧ bits .or .u8 (bits .and .u8 x 127) 64 < 256 := by
 obtain ⟨X, rfl⟩ := Int.eq_ofNat_of_zero_le h0
 have hX : X < 256 := by omega
 have h : ∀ n : Fin 256, 0 ≤ bits .or .u8 (bits .and .u8 ((n.val : Nat) : Int) 127) 64 ∧ bits .or .u8 (bits .and .u8 ((n.val : Nat) : Int) 127) 64 < 256 := by decide +kernel
 exact h ⟨X, hX⟩
def clF (s : Yb) : Nat → Int := upd (upd (bt s) 0 (bits .and .u8 (bt s 0) 248)) 31 (bits .or .u8 (bits .and .u8 (bt s 31) 127) 64)
def clS (s : Yb) : ByteArray := bs ((List.range 32).map (clF s))
theorem clF_bd (s : Yb) (i : Nat) : 0 ≤ clF s i ∧ clF s i < 256 := by
 unfold clF upd
 by_cases h1 : i = 31
 ·rw [if_pos h1]
  exact or_bd (bt_bd s 31).1 (bt_bd s 31).2
 ·rw [if_neg h1]
  by_cases h2 : i = 0
  ·rw [if_pos h2]
   exact and_bd (bt_bd s 0).1 (bt_bd s 0).2
  ·rw [if_neg h2]
   exact bt_bd s i
theorem clS_size (s : Yb) : (clS s).size = 32 := by unfold clS; rw [bs_size]; simp
theorem clamp_yes (s : Yb) (w : World) (hs : s.size = 32) : Cs 66 #[.string s] w (.tuple #[.string (clS s), .int .i64 0]) := by
 have n0 : ((s.size : Int) != 32) = false := by simp [hs]
 obtain ⟨cap, W1, hcv, B, hb⟩ := conv_str w s
 rw [hs] at B
 have c0 := B.c 0 (by omega)
 have c31 := B.c 31 (by omega)
 have f0 := B.fz 0 (by omega)
 have f31 := B.fz 31 (by omega)
 have gl := B.lt
 have B2 := (B.set (k := 0) (by omega) (bits .and .u8 (bt s 0) 248)).set (k := 31) (by omega) (bits .or .u8 (bits .and .u8 (bt s 31) 127) 64)
 have hbk := conv_back (f := clF s) B2 cap (fun i _ => clF_bd s i)
 rw [show bs ((List.range 32).map (clF s)) = clS s from rfl] at hbk
 have OO := hide ((hb.setCell (p := ⟨w.heap.size, 0, none⟩) (Nat.le_refl _) (.int .u8 (bits .and .u8 (bt s 0) 248))).setCell (p := ⟨w.heap.size, 31, none⟩) (Nat.le_refl _) (.int .u8 (bits .or .u8 (bits .and .u8 (bt s 31) 127) 64)))
 clear B2 B hb
 generalize clS s = C at *
 go_enter Tryz.func66, Tryz.ntmps66
 go_wp2
 exact bodyPost_ret (v := .tuple #[.string C, .int .i64 0]) (by simp [results, Tryz.results66, go_sem]) rfl ⟨rfl, OO.out⟩
theorem rclamp_yes (s : Yb) (w : World) (hs : s.size = 32) : Cs 37 #[.string s] w (.string (clS s)) := by
 obtain ⟨cap, W1, hcv, B, hb⟩ := conv_str w s
 rw [hs] at B
 have c0 := B.c 0 (by omega)
 have c31 := B.c 31 (by omega)
 have f0 := B.fz 0 (by omega)
 have f31 := B.fz 31 (by omega)
 have gl := B.lt
 have B2 := (B.set (k := 0) (by omega) (bits .and .u8 (bt s 0) 248)).set (k := 31) (by omega) (bits .or .u8 (bits .and .u8 (bt s 31) 127) 64)
 have hbk := conv_back (f := clF s) B2 cap (fun i _ => clF_bd s i)
 rw [show bs ((List.range 32).map (clF s)) = clS s from rfl] at hbk
 have OO := hide ((hb.setCell (p := ⟨w.heap.size, 0, none⟩) (Nat.le_refl _) (.int .u8 (bits .and .u8 (bt s 0) 248))).setCell (p := ⟨w.heap.size, 31, none⟩) (Nat.le_refl _) (.int .u8 (bits .or .u8 (bits .and .u8 (bt s 31) 127) 64)))
 clear B2 B hb
 generalize clS s = C at *
 go_enter Tryz.func37, Tryz.ntmps37
 go_wp2
 go_ret
 exact ⟨rfl, OO.out⟩
open Go.RowKit
def mkF (s : Yb) : Nat → Int := upd (bt s) 31 (bits .and .u8 (bt s 31) 127)
def mkS (s : Yb) : ByteArray := bs ((List.range 32).map (mkF s))
theorem mkS_size (s : Yb) : (mkS s).size = 32 := by unfold mkS; rw [bs_size]; simp
def shE (s p : Yb) : E5 := mulF (ladF (clS s) (ofF (mkS p)) 255).dx (invF (ladF (clS s) (ofF (mkS p)) 255).dz)
theorem shE_ok (s p : Yb) : (shE s p).Ok := by
 have h := ladF_ok (clS s) (ofF_ok (mkS p)) 255
 exact mulF_ok h.dx (invF_ok h.dz)
def shS (s p : Yb) : ByteArray := if (shE s p).n % Pm = 0 then ⟨#[]⟩ else lebytes ((shE s p).n % Pm)
def shC (s p : Yb) : Int := if (shE s p).n % Pm = 0 then 30 else 0
def nineS : ByteArray := lebytes ((smallF 9).n % Pm)
theorem nineS_size : nineS.size = 32 := by decide +kernel
open Go.RowKit
structure RS where
 x2 : Int
 z2 : Int
 x3 : Int
 z3 : Int
def rstep (x1 : Int) (q : RS) : RS :=
 let a := (q.x2 + q.z2) % Pm
 let aa := a * a % Pm
 let d := (q.x2 - q.z2) % Pm
 let dd := d * d % Pm
 let e := (aa - dd) % Pm
 let da := (q.x3 - q.z3) % Pm * a % Pm
 let cb := (q.x3 + q.z3) % Pm * d % Pm
 let s := (da + cb) % Pm
 let t := (da - cb) % Pm
 ⟨aa * dd % Pm, e * ((aa + 121665 * e % Pm) % Pm) % Pm, s * s % Pm, x1 * (t * t % Pm) % Pm⟩
def RS.swap (q : RS) : RS := ⟨q.x3, q.z3, q.x2, q.z2⟩
def rladF (s : Yb) (x1 : Int) : Nat → RS
 | 0 => ⟨1, 0, x1, 1⟩
 | k + 1 => if bit s (254 - k) = 0 then rstep x1 (rladF s x1 k) else (rstep x1 (rladF s x1 k).swap).swap
structure RS.Ok (q : RS) : Prop where
 x2 : 0 ≤ q.x2 ∧ q.x2 < Pm
 z2 : 0 ≤ q.z2 ∧ q.z2 < Pm
 x3 : 0 ≤ q.x3 ∧ q.x3 < Pm
 z3 : 0 ≤ q.z3 ∧ q.z3 < Pm
theorem pmod (X : Int) : 0 ≤ X % Pm ∧ X % Pm < Pm := ⟨Int.emod_nonneg _ (by decide), Int.emod_lt_of_pos _ (by decide)⟩
theorem RS.Ok.swap {q : RS} (h : q.Ok) : q.swap.Ok := ⟨h.x3, h.z3, h.x2, h.z2⟩
theorem rstep_ok (x1 : Int) (q : RS) : (rstep x1 q).Ok := ⟨pmod _, pmod _, pmod _, pmod _⟩
theorem rladF_ok (s : Yb) {x1 : Int} (h : 0 ≤ x1 ∧ x1 < Pm) : ∀ k, (rladF s x1 k).Ok
 | 0 => ⟨⟨show (0 : Int) ≤ 1 by decide, show (1 : Int) < Pm by decide⟩, ⟨show (0 : Int) ≤ 0 by decide, show (0 : Int) < Pm by decide⟩, h, ⟨show (0 : Int) ≤ 1 by decide, show (1 : Int) < Pm by decide⟩⟩
 | k + 1 => by
  unfold rladF
  by_cases hb : bit s (254 - k) = 0
  ·rw [if_pos hb]
   exact rstep_ok _ _
  ·rw [if_neg hb]
   exact (rstep_ok _ _).swap
theorem dSP {X : Int} (h : 0 ≤ X ∧ X < Pm) : S (d16 X) 16 = X := by
 have := dS X
 rwa [Int.emod_eq_of_lt h.1 h.2] at this
open Go.RowKit
def shV (K : Yb) (X : Int) : Int := (rladF K X 255).x2 * pwm (rladF K X 255).z2 (xbit 255 21) 255 % Pm
structure Lc (l : St) (q : RS) : Prop where
 x2 : Cg l.dx.n q.x2
 z2 : Cg l.dz.n q.z2
 x3 : Cg l.px.n q.x3
 z3 : Cg l.pz.n q.z3
theorem em (X : Int) : Cg X (X % Pm) := (cg_emod X).symm
theorem step_cg {ax az bx bz x : E5} {q : RS} {X : Int} (h1 : Cg ax.n q.x2) (h2 : Cg az.n q.z2) (h3 : Cg bx.n q.x3) (h4 : Cg bz.n q.z3) (h5 : Cg x.n X) : Lc (stepF ax az bx bz x) (rstep X q) := by
 have a := ((addF_n ax az).trans (h1.add h2)).trans (em _)
 have d := ((subF_n ax az).trans (h1.sub h2)).trans (em _)
 have aa := ((mulF_n _ _).trans (a.mul a)).trans (em _)
 have dd := ((mulF_n _ _).trans (d.mul d)).trans (em _)
 have e := ((subF_n _ _).trans (aa.sub dd)).trans (em _)
 have u1 := ((subF_n bx bz).trans (h3.sub h4)).trans (em _)
 have da := ((mulF_n _ _).trans (u1.mul a)).trans (em _)
 have u2 := ((addF_n bx bz).trans (h3.add h4)).trans (em _)
 have cb := ((mulF_n _ _).trans (u2.mul d)).trans (em _)
 have s := ((addF_n _ _).trans (da.add cb)).trans (em _)
 have t := ((subF_n _ _).trans (da.sub cb)).trans (em _)
 have k := ((mulF_n _ _).trans ((smallF_n 121665).mul e)).trans (em _)
 have f := ((addF_n _ _).trans (aa.add k)).trans (em _)
 exact ⟨((mulF_n _ _).trans (aa.mul dd)).trans (em _), ((mulF_n _ _).trans (e.mul f)).trans (em _), ((mulF_n _ _).trans (s.mul s)).trans (em _), ((mulF_n _ _).trans (h5.mul (((mulF_n _ _).trans (t.mul t)).trans (em _)))).trans (em _)⟩
theorem lad_cg (K : Yb) {x : E5} {X : Int} (h : Cg x.n X) : ∀ k, Lc (ladF K x k) (rladF K X k)
 | 0 => ⟨smallF_n 1, Cg.of_eq zeroE_n, h, smallF_n 1⟩
 | k + 1 => by
  have ih := lad_cg K h k
  unfold ladF rladF
  by_cases hb : bit K (254 - k) = 0
  ·rw [if_pos hb, if_pos hb]
   exact step_cg ih.x2 ih.z2 ih.x3 ih.z3 h
  ·rw [if_neg hb, if_neg hb]
   have := step_cg (q := (rladF K X k).swap) ih.x3 ih.z3 ih.x2 ih.z2 h
   exact ⟨this.x3, this.z3, this.x2, this.z2⟩
theorem shE_V (s p : Yb) : (shE s p).n % Pm = shV (clS s) (val (mkS p) % Pm) := by
 have h := lad_cg (clS s) ((ofF_n (mkS p)).trans (em _)) 255
 exact ((mulF_n _ _).trans (h.x2.mul (rinv_val h.z2))).emod
def sS (V : Int) : ByteArray := if V = 0 then ⟨#[]⟩ else lebytes V
def sC (V : Int) : Int := if V = 0 then 30 else 0
theorem shS_V (s p : Yb) : shS s p = sS (shV (clS s) (val (mkS p) % Pm)) := by
 unfold shS sS
 rw [shE_V]
theorem shC_V (s p : Yb) : shC s p = sC (shV (clS s) (val (mkS p) % Pm)) := by
 unfold shC sC
 rw [shE_V]
theorem rb_bt (f : NI) {i : Nat} (h : i < 32) : bt (bs (rb f 32)) i = by16 f i := by
 refine bt_bs _ _ _ ?_ (by unfold by16; omega) (by unfold by16; omega)
 simp only [rb, List.getElem?_map, List.getElem?_range h, Option.map_some]
 rw [if_pos h]
theorem rb_pt {f : NI} (hf : Dig f 16) : val (bs (rb f 32)) = S f 16 := by
 rw [← pt_S]
 refine S_congr fun i hi => ?_
 have h := hf i hi
 unfold pt
 rw [if_pos (by omega), if_pos (by omega), rb_bt f (by omega), rb_bt f (by omega)]
 unfold by16
 rw [show 2 * i / 2 = i by omega, show 2 * i % 2 = 0 by omega, show (2 * i + 1) / 2 = i by omega, show (2 * i + 1) % 2 = 1 by omega]
 simp
 omega
theorem and127 {x : Int} (h0 : 0 ≤ x) (h1 : x < 128) : bits .and .u8 x 127 = x := by
 obtain ⟨X, rfl⟩ := Int.eq_ofNat_of_zero_le h0
 have hX : X < 128 := by omega
 have h : ∀ n : Fin 128, bits .and .u8 ((n.val : Nat) : Int) 127 = ((n.val : Nat) : Int) := by decide +kernel
 exact h ⟨X, hX⟩
theorem bs_bt (s : Yb) (hs : s.size = 32) : bs ((List.range 32).map (bt s)) = s := by
 have hd : (bs ((List.range 32).map (bt s))).data = s.data := by
  apply Array.ext_getElem?
  intro i
  have hs' : s.data.size = 32 := hs
  by_cases hi : i < 32
  ·simp only [bs, List.getElem?_toArray, List.getElem?_map, List.getElem?_range hi, Option.map_some, bt]
   rw [Array.getElem?_eq_getElem (by omega)]
   simp
  ·simp only [bs, List.getElem?_toArray]
   rw [List.getElem?_eq_none (by simp; omega), Array.getElem?_eq_none (by omega)]
 cases s
 unfold bs at *
 simp only at hd
 rw [hd]
theorem mk_leb {W : Int} (hW : 0 ≤ W ∧ W < Pm) : val (mkS (bs (rb (d16 W) 32))) % Pm = W := by
 have hsz : (bs (rb (d16 W) 32)).size = 32 := by rw [bs_size, rb_len]
 have hb : bt (bs (rb (d16 W) 32)) 31 < 128 := by
  rw [rb_bt _ (by omega)]
  have hP : Pm < 2 ^ 255 := by decide
  have e : d16 W 15 = W / 65536 ^ 15 % 65536 := rfl
  show d16 W (31 / 2) / 256 ^ (31 % 2) % 256 < 128
  rw [show 31 / 2 = 15 from rfl, show 31 % 2 = 1 from rfl, e]
  have h1 : W / 65536 ^ 15 < 32768 := Int.ediv_lt_of_lt_mul (by decide) (by have : (32768 : Int) * 65536 ^ 15 = 2 ^ 255 := by decide
                                                                            omega)
  have h0 : 0 ≤ W / 65536 ^ 15 := Int.ediv_nonneg hW.1 (by decide)
  generalize W / 65536 ^ 15 = Y at *
  rw [show (256 : Int) ^ 1 = 256 by decide]
  omega
 have e : mkS (bs (rb (d16 W) 32)) = bs (rb (d16 W) 32) := by
  unfold mkS
  rw [show (List.range 32).map (mkF (bs (rb (d16 W) 32))) = (List.range 32).map (bt (bs (rb (d16 W) 32))) from List.map_congr_left fun i _ => by
   unfold mkF upd
   by_cases h : i = 31
   ·rw [if_pos h, h, and127 (bt_bd _ _).1 hb]
   ·rw [if_neg h]]
  exact bs_bt _ hsz
 rw [e, rb_pt (d16_dig W 16), dSP hW, Int.emod_eq_of_lt hW.1 hW.2]
theorem leb_rb {W : Int} (hW : 0 ≤ W ∧ W < Pm) : lebytes W = bs (rb (d16 W) 32) := by
 have h := lebytes_S (f := d16 W) (d16_dig W 16)
 rwa [dSP hW] at h
theorem shV_bd (K : Yb) (X : Int) : 0 ≤ shV K X ∧ shV K X < Pm := pmod _
def aS : ByteArray := bs (List.replicate 31 0 ++ [97])
def bbS : ByteArray := bs (List.replicate 31 0 ++ [98])
def z32S : ByteArray := bs (List.replicate 32 0)
theorem v9 : val (mkS nineS) % Pm = 9 := by decide +kernel
theorem v0 : val (mkS z32S) % Pm = 0 := by decide +kernel
theorem aS_size : aS.size = 32 := by decide +kernel
theorem bbS_size : bbS.size = 32 := by decide +kernel
end Go.Proofs.YtffimigpbcilbaaGreatDoor.Mon
/- Numbers modulo a prime are the powers of one of them: shown by the factors of the prime without 1.
   2^255 - 19 is a prime, and each number modulo it but 0 is a power of 2. The order of the base point is a prime. -/
namespace Go.Proofs.YtffimigpbcilbaaGreatDoor.Mon
def IsP (p : Nat) : Prop := 1 < p ∧ ∀ d, d ∣ p → d = 1 ∨ d = p
def pmf (m : Nat) : Nat → Nat → Nat → Nat
 | 0, _, _ => 1 % m
 | f + 1, a, e => pmf m f (a * a % m) (e / 2) * a ^ (e % 2) % m
theorem pmf_eq (m : Nat) : ∀ (f a e : Nat), e < 2 ^ f → pmf m f a e = a ^ e % m
 | 0, a, e, h => by
  have : e = 0 := by simp at h; exact h
  subst this
  rfl
 | f + 1, a, e, h => by
  have h2 : e / 2 < 2 ^ f := by rw [Nat.pow_succ] at h; omega
  unfold pmf
  rw [pmf_eq m f _ _ h2, ← Nat.pow_mod, Nat.mod_mul_mod, ← Nat.pow_two, ← Nat.pow_mul, ← Nat.pow_add, show 2 * (e / 2) + e % 2 = e by omega]
theorem one_pow_mod {n x : Nat} (hn : 1 < n) (h : x % n = 1) (k : Nat) : x ^ k % n = 1 := by
 rw [Nat.pow_mod, h, Nat.one_pow, Nat.mod_eq_of_lt hn]
theorem mul_one_mod {n x y : Nat} (h : x % n = 1) : x * y % n = y % n := by
 rw [Nat.mul_mod, h, Nat.one_mul, Nat.mod_mod]
theorem pow_gcd {n g : Nat} (hn : 1 < n) (d e : Nat) : g ^ d % n = 1 → g ^ e % n = 1 → g ^ Nat.gcd d e % n = 1 := by
 induction d, e using Nat.gcd.induction with
 | H0 e => intro _ h; rwa [Nat.gcd_zero_left]
 | H1 d e _ ih =>
  intro h1 h2
  rw [Nat.gcd_rec]
  refine ih ?_ h1
  have e1 : g ^ e = (g ^ d) ^ (e / d) * g ^ (e % d) := by rw [← Nat.pow_mul, ← Nat.pow_add, Nat.div_add_mod]
  rw [e1, mul_one_mod (one_pow_mod hn h1 _)] at h2
  exact h2
def prod : List Nat → Nat
 | [] => 1
 | x :: l => x * prod l
theorem prod_coprime {m : Nat} : ∀ (l : List Nat), (∀ x ∈ l, Nat.Coprime x m) → Nat.Coprime (prod l) m
 | [], _ => Nat.coprime_one_left m
 | x :: l, h => Nat.Coprime.mul_left (h x (List.mem_cons_self)) (prod_coprime l fun y hy => h y (List.mem_cons_of_mem _ hy))
theorem divides_part {d N : Nat} (l : List Nat) (hl : ∀ x ∈ l, IsP x) (hN : prod l = N) (hd : d ∣ N) (hne : d ≠ N) : ∃ x ∈ l, d ∣ N / x := by
 obtain ⟨m, hm⟩ := hd
 by_cases h : ∃ x ∈ l, x ∣ m
 ·obtain ⟨x, hx, y, hy⟩ := h
  refine ⟨x, hx, y, ?_⟩
  have hx0 : 0 < x := by have := (hl x hx).1; omega
  rw [hm, hy, Nat.mul_left_comm, Nat.mul_div_cancel_left _ hx0]
 ·exfalso
  have hc : ∀ x ∈ l, Nat.Coprime x m := fun x hx => by
   rcases (hl x hx).2 _ (Nat.gcd_dvd_left x m) with h1 | h1
   ·exact h1
   ·exact absurd ⟨x, hx, h1 ▸ Nat.gcd_dvd_right x m⟩ h
  have hp := prod_coprime l hc
  rw [hN] at hp
  have : m ∣ Nat.gcd N m := Nat.dvd_gcd ⟨d, by rw [hm, Nat.mul_comm]⟩ (Nat.dvd_refl m)
  rw [hp] at this
  have m1 : m = 1 := Nat.dvd_one.1 this
  rw [m1, Nat.mul_one] at hm
  exact hne hm.symm
theorem pigeon : ∀ (n : Nat) (f : Nat → Nat), (∀ i, i < n → f i < n) → (∀ i j, i < n → j < n → f i = f j → i = j) → ∀ y, y < n → ∃ i, i < n ∧ f i = y
 | 0, _, _, _, y, hy => by omega
 | n + 1, f, hf, hi, y, hy => by
  by_cases hl : ∃ i, i < n ∧ f i = n
  ·obtain ⟨i0, hi0, he0⟩ := hl
   have hfn : f n < n := by
    have h1 := hf n (by omega)
    have h2 : f n ≠ n := fun h => by
     have := hi n i0 (by omega) (by omega) (h.trans he0.symm)
     omega
    omega
   have ih := pigeon n (fun i => if i = i0 then f n else f i) (fun i h => by
    by_cases e : i = i0
    ·simp only [e, if_true]; exact hfn
    ·simp only [e, if_false]
     have h1 := hf i (by omega)
     have h2 : f i ≠ n := fun h3 => e (hi i i0 (by omega) (by omega) (h3.trans he0.symm))
     omega) (fun i j h1 h2 h3 => by
    by_cases e1 : i = i0
    ·by_cases e2 : j = i0
     ·omega
     ·simp only [e1, e2, if_true, if_false] at h3
      have := hi n j (by omega) (by omega) h3
      omega
    ·by_cases e2 : j = i0
     ·simp only [e1, e2, if_true, if_false] at h3
      have := hi i n (by omega) (by omega) h3
      omega
     ·simp only [e1, e2, if_false] at h3
      exact hi i j (by omega) (by omega) h3)
   by_cases hyn : y = n
   ·exact ⟨i0, by omega, by omega⟩
   ·obtain ⟨i, h1, h2⟩ := ih y (by omega)
    by_cases e : i = i0
    ·simp only [e, if_true] at h2
     exact ⟨n, by omega, h2⟩
    ·simp only [e, if_false] at h2
     exact ⟨i, by omega, h2⟩
  ·have ih := pigeon n f (fun i h => by
    have h1 := hf i (by omega)
    have h2 : f i ≠ n := fun h3 => hl ⟨i, h, h3⟩
    omega) (fun i j h1 h2 h3 => hi i j (by omega) (by omega) h3)
   by_cases hfn : f n = n
   ·by_cases hyn : y = n
    ·exact ⟨n, by omega, by omega⟩
    ·obtain ⟨i, h1, h2⟩ := ih y (by omega)
     exact ⟨i, by omega, h2⟩
   ·obtain ⟨i, h1, h2⟩ := ih (f n) (by have := hf n (by omega); omega)
    have := hi i n (by omega) (by omega) h2
    omega
structure Gen (n g : Nat) : Prop where
 gt : 1 < n
 per : g ^ (n - 1) % n = 1
 all : ∀ a, 0 < a → a < n → ∃ i, g ^ i % n = a
theorem gen_of {n g : Nat} (hn : 1 < n) (l : List Nat) (hl : ∀ x ∈ l, IsP x) (hN : prod l = n - 1) (hg : g ^ (n - 1) % n = 1) (ho : ∀ x ∈ l, g ^ ((n - 1) / x) % n ≠ 1) : Gen n g := by
 have hord : ∀ k, 0 < k → k < n - 1 → g ^ k % n ≠ 1 := by
  intro k h0 hk he
  have h1 := pow_gcd hn k (n - 1) he hg
  have h2 : Nat.gcd k (n - 1) ∣ n - 1 := Nat.gcd_dvd_right _ _
  have h3 : Nat.gcd k (n - 1) ≤ k := Nat.le_of_dvd h0 (Nat.gcd_dvd_left _ _)
  obtain ⟨x, hx, y, hy⟩ := divides_part l hl hN h2 (by omega)
  refine ho x hx ?_
  rw [hy, Nat.pow_mul]
  exact one_pow_mod hn h1 y
 have hinj : ∀ i j, i < j → j < n - 1 → g ^ i % n ≠ g ^ j % n := by
  intro i j hij hj he
  refine hord (j - i) (by omega) (by omega) ?_
  have e1 : g ^ i * g ^ (n - 1 - i) % n = 1 := by rw [← Nat.pow_add, show i + (n - 1 - i) = n - 1 by omega, hg]
  have e2 : g ^ j * g ^ (n - 1 - i) % n = g ^ (j - i) % n := by
   rw [← Nat.pow_add, show j + (n - 1 - i) = (n - 1) + (j - i) by omega, Nat.pow_add, mul_one_mod hg]
  rw [← e2, Nat.mul_mod, ← he, ← Nat.mul_mod, e1]
 have hpos : ∀ i, i < n - 1 → 0 < g ^ i % n := by
  intro i hi
  apply Nat.pos_of_ne_zero
  intro h0
  have e1 : g ^ i * g ^ (n - 1 - i) % n = 1 := by rw [← Nat.pow_add, show i + (n - 1 - i) = n - 1 by omega, hg]
  rw [Nat.mul_mod, h0, Nat.zero_mul, Nat.zero_mod] at e1
  cases e1
 refine ⟨hn, hg, fun a h0 ha => ?_⟩
 obtain ⟨i, h1, h2⟩ := pigeon (n - 1) (fun i => g ^ i % n - 1) (fun i hi => by
  have := hpos i hi
  have := Nat.mod_lt (g ^ i) (show 0 < n by omega)
  show g ^ i % n - 1 < n - 1
  omega) (fun i j hi hj he => by
  have h1 := hpos i hi
  have h2 := hpos j hj
  have he2 : g ^ i % n - 1 = g ^ j % n - 1 := he
  have he' : g ^ i % n = g ^ j % n := by omega
  by_cases e : i = j
  ·exact e
  ·exfalso
   by_cases hlt : i < j
   ·exact hinj i j hlt hj he'
   ·exact hinj j i (by omega) hi he'.symm) (a - 1) (by omega)
 refine ⟨i, ?_⟩
 have := hpos i h1
 have h3 : g ^ i % n - 1 = a - 1 := h2
 omega
theorem Gen.isP {n g : Nat} (h : Gen n g) : IsP n := by
 obtain ⟨hn, hg, ha⟩ := h
 refine ⟨hn, fun d hd => ?_⟩
 by_cases e : d = n
 ·exact .inr e
 ·left
  have hle := Nat.le_of_dvd (by omega) hd
  have h0 : 0 < d := Nat.pos_of_ne_zero fun h => by
   subst h
   have := Nat.eq_zero_of_zero_dvd hd
   omega
  obtain ⟨i, hi⟩ := ha d h0 (by omega)
  have e1 : g ^ i * g ^ ((n - 1) * (i + 1) - i) % n = 1 := by
   have h2 : i ≤ (n - 1) * (i + 1) := by
    have : 1 * (i + 1) ≤ (n - 1) * (i + 1) := Nat.mul_le_mul_right _ (by omega)
    omega
   rw [← Nat.pow_add, show i + ((n - 1) * (i + 1) - i) = (n - 1) * (i + 1) by omega, Nat.pow_mul]
   exact one_pow_mod hn hg _
  have e2 : d ∣ g ^ i * g ^ ((n - 1) * (i + 1) - i) := by
   refine Nat.dvd_trans ?_ (Nat.dvd_mul_right _ _)
   rw [← Nat.div_add_mod (g ^ i) n, hi]
   exact (Nat.dvd_add_right (Nat.dvd_trans hd (Nat.dvd_mul_right _ _))).2 (Nat.dvd_refl d)
  have e3 : d ∣ 1 := by
   rw [← e1]
   exact (Nat.dvd_mod_iff hd).2 e2
  exact Nat.dvd_one.1 e3
theorem gen_by {n g : Nat} (f : Nat) (l : List Nat) (hn : 1 < n) (hl : ∀ x ∈ l, IsP x) (hN : prod l = n - 1) (hf : n - 1 < 2 ^ f) (hg : pmf n f g (n - 1) = 1) (ho : (l.all fun x => !Nat.beq (pmf n f g ((n - 1) / x)) 1) = true) : Gen n g := by
 refine gen_of hn l hl hN (by rw [← pmf_eq n f g _ hf]; exact hg) fun x hx he => ?_
 have h := List.all_eq_true.1 ho x hx
 rw [pmf_eq n f g _ (Nat.lt_of_le_of_lt (Nat.div_le_self _ _) hf), he] at h
 cases h
theorem isP2 : IsP 2 := ⟨by decide, fun d h => by
 have := Nat.le_of_dvd (by decide) h
 have : d ≠ 0 := fun e => by subst e; have := Nat.eq_zero_of_zero_dvd h; omega
 omega⟩
theorem all_nil {Q : Nat → Prop} : ∀ x ∈ ([] : List Nat), Q x := fun _ h => by cases h
theorem all_cons {Q : Nat → Prop} {a : Nat} {l : List Nat} (h : Q a) (hl : ∀ x ∈ l, Q x) : ∀ x ∈ a :: l, Q x := fun x hx => by
 rcases List.mem_cons.1 hx with e | e
 ·rw [e]; exact h
 ·exact hl x e
theorem pr {n : Nat} (g f : Nat) (l : List Nat) (hl : ∀ x ∈ l, IsP x) (hn : 1 < n := by decide +kernel) (hN : prod l = n - 1 := by decide +kernel) (hf : n - 1 < 2 ^ f := by decide +kernel) (hg : pmf n f g (n - 1) = 1 := by decide +kernel) (ho : (l.all fun x => !Nat.beq (pmf n f g ((n - 1) / x)) 1) = true := by decide +kernel) : Gen n g := gen_by f l hn hl hN hf hg ho
theorem k_ {x : Nat} {l : List Nat} (h : IsP x) (t : ∀ y ∈ l, IsP y) : ∀ y ∈ x :: l, IsP y := all_cons h t
theorem pq1 : IsP 3 := (pr 2 2 [2] (k_ isP2 all_nil)).isP
theorem pq2 : IsP 17 := (pr 3 5 [2, 2, 2, 2] (k_ isP2 (k_ isP2 (k_ isP2 (k_ isP2 all_nil))))).isP
theorem pq3 : IsP 7 := (pr 3 3 [2, 3] (k_ isP2 (k_ pq1 all_nil))).isP
theorem pq4 : IsP 239 := (pr 7 8 [2, 7, 17] (k_ isP2 (k_ pq3 (k_ pq2 all_nil)))).isP
theorem pq5 : IsP 479 := (pr 13 9 [2, 239] (k_ isP2 (k_ pq4 all_nil))).isP
theorem pq6 : IsP 32573 := (pr 2 15 [2, 2, 17, 479] (k_ isP2 (k_ isP2 (k_ pq2 (k_ pq5 all_nil))))).isP
theorem pq7 : IsP 65147 := (pr 2 16 [2, 32573] (k_ isP2 (k_ pq6 all_nil))).isP
theorem pq8 : IsP 5 := (pr 2 3 [2, 2] (k_ isP2 (k_ isP2 all_nil))).isP
theorem pq9 : IsP 11 := (pr 2 4 [2, 5] (k_ isP2 (k_ pq8 all_nil))).isP
theorem pq10 : IsP 353 := (pr 3 9 [2, 2, 2, 2, 2, 11] (k_ isP2 (k_ isP2 (k_ isP2 (k_ isP2 (k_ isP2 (k_ pq9 all_nil))))))).isP
theorem pq11 : IsP 29 := (pr 2 5 [2, 2, 7] (k_ isP2 (k_ isP2 (k_ pq3 all_nil)))).isP
theorem pq12 : IsP 59 := (pr 2 6 [2, 29] (k_ isP2 (k_ pq11 all_nil))).isP
theorem pq13 : IsP 487 := (pr 3 9 [2, 3, 3, 3, 3, 3] (k_ isP2 (k_ pq1 (k_ pq1 (k_ pq1 (k_ pq1 (k_ pq1 all_nil))))))).isP
theorem pq14 : IsP 57467 := (pr 2 16 [2, 59, 487] (k_ isP2 (k_ pq12 (k_ pq13 all_nil)))).isP
theorem pq15 : IsP 13 := (pr 2 4 [2, 2, 3] (k_ isP2 (k_ isP2 (k_ pq1 all_nil)))).isP
theorem pq16 : IsP 131 := (pr 2 8 [2, 5, 13] (k_ isP2 (k_ pq8 (k_ pq15 all_nil)))).isP
theorem pq17 : IsP 132049 := (pr 26 18 [2, 2, 2, 2, 3, 3, 7, 131] (k_ isP2 (k_ isP2 (k_ isP2 (k_ isP2 (k_ pq1 (k_ pq1 (k_ pq3 (k_ pq16 all_nil))))))))).isP
theorem pq18 : IsP 43 := (pr 3 6 [2, 3, 7] (k_ isP2 (k_ pq1 (k_ pq3 all_nil)))).isP
theorem pq19 : IsP 23 := (pr 5 5 [2, 11] (k_ isP2 (k_ pq9 all_nil))).isP
theorem pq20 : IsP 3727 := (pr 3 12 [2, 3, 3, 3, 3, 23] (k_ isP2 (k_ pq1 (k_ pq1 (k_ pq1 (k_ pq1 (k_ pq19 all_nil))))))).isP
theorem pq21 : IsP 1923133 := (pr 2 21 [2, 2, 3, 43, 3727] (k_ isP2 (k_ isP2 (k_ pq1 (k_ pq18 (k_ pq20 all_nil)))))).isP
theorem pq22 : IsP 31 := (pr 3 5 [2, 3, 5] (k_ isP2 (k_ pq1 (k_ pq8 all_nil)))).isP
theorem pq23 : IsP 53 := (pr 2 6 [2, 2, 13] (k_ isP2 (k_ isP2 (k_ pq15 all_nil)))).isP
theorem pq24 : IsP 107 := (pr 2 7 [2, 53] (k_ isP2 (k_ pq23 all_nil))).isP
theorem pq25 : IsP 37 := (pr 2 6 [2, 2, 3, 3] (k_ isP2 (k_ isP2 (k_ pq1 (k_ pq1 all_nil))))).isP
theorem pq26 : IsP 223 := (pr 3 8 [2, 3, 37] (k_ isP2 (k_ pq1 (k_ pq25 all_nil)))).isP
theorem pq27 : IsP 173 := (pr 2 8 [2, 2, 43] (k_ isP2 (k_ isP2 (k_ pq18 all_nil)))).isP
theorem pq28 : IsP 4153 := (pr 5 13 [2, 2, 2, 3, 173] (k_ isP2 (k_ isP2 (k_ isP2 (k_ pq1 (k_ pq27 all_nil)))))).isP
theorem pq29 : IsP 41 := (pr 6 6 [2, 2, 2, 5] (k_ isP2 (k_ isP2 (k_ isP2 (k_ pq8 all_nil))))).isP
theorem pq30 : IsP 1723 := (pr 3 11 [2, 3, 7, 41] (k_ isP2 (k_ pq1 (k_ pq3 (k_ pq29 all_nil))))).isP
theorem pq31 : IsP 430751 := (pr 17 19 [2, 5, 5, 5, 1723] (k_ isP2 (k_ pq8 (k_ pq8 (k_ pq8 (k_ pq30 all_nil)))))).isP
theorem pq32 : IsP 31757755568855353 := (pr 10 55 [2, 2, 2, 3, 31, 107, 223, 4153, 430751] (k_ isP2 (k_ isP2 (k_ isP2 (k_ pq1 (k_ pq22 (k_ pq24 (k_ pq26 (k_ pq28 (k_ pq31 all_nil)))))))))).isP
theorem pq33 : IsP 19 := (pr 2 5 [2, 3, 3] (k_ isP2 (k_ pq1 (k_ pq1 all_nil)))).isP
theorem pq34 : IsP 83 := (pr 2 7 [2, 41] (k_ isP2 (k_ pq29 all_nil))).isP
theorem pq35 : IsP 9463 := (pr 3 14 [2, 3, 19, 83] (k_ isP2 (k_ pq1 (k_ pq33 (k_ pq34 all_nil))))).isP
theorem pq36 : IsP 37853 := (pr 2 16 [2, 2, 9463] (k_ isP2 (k_ isP2 (k_ pq35 all_nil)))).isP
theorem pq37 : IsP 75707 := (pr 2 17 [2, 37853] (k_ isP2 (k_ pq36 all_nil))).isP
theorem pq38 : IsP 47 := (pr 5 6 [2, 23] (k_ isP2 (k_ pq19 all_nil))).isP
theorem pq39 : IsP 127 := (pr 3 7 [2, 3, 3, 7] (k_ isP2 (k_ pq1 (k_ pq1 (k_ pq3 all_nil))))).isP
theorem pq40 : IsP 103 := (pr 5 7 [2, 3, 17] (k_ isP2 (k_ pq1 (k_ pq2 all_nil)))).isP
theorem pq41 : IsP 991 := (pr 6 10 [2, 3, 3, 5, 11] (k_ isP2 (k_ pq1 (k_ pq1 (k_ pq8 (k_ pq9 all_nil)))))).isP
theorem pq42 : IsP 8574133 := (pr 2 24 [2, 2, 3, 7, 103, 991] (k_ isP2 (k_ isP2 (k_ pq1 (k_ pq3 (k_ pq40 (k_ pq41 all_nil))))))).isP
theorem pq43 : IsP 1919519569386763 := (pr 2 51 [2, 3, 7, 19, 47, 47, 127, 8574133] (k_ isP2 (k_ pq1 (k_ pq3 (k_ pq33 (k_ pq38 (k_ pq38 (k_ pq39 (k_ pq42 all_nil))))))))).isP
theorem pq44 : IsP 2437 := (pr 2 12 [2, 2, 3, 7, 29] (k_ isP2 (k_ isP2 (k_ pq1 (k_ pq3 (k_ pq11 all_nil)))))).isP
theorem pq45 : IsP 97 := (pr 5 7 [2, 2, 2, 2, 2, 3] (k_ isP2 (k_ isP2 (k_ isP2 (k_ isP2 (k_ isP2 (k_ pq1 all_nil))))))).isP
theorem pq46 : IsP 419 := (pr 2 9 [2, 11, 19] (k_ isP2 (k_ pq9 (k_ pq33 all_nil)))).isP
theorem pq47 : IsP 569003 := (pr 2 20 [2, 7, 97, 419] (k_ isP2 (k_ pq3 (k_ pq45 (k_ pq46 all_nil))))).isP
theorem pq48 : IsP 2773320623 := (pr 5 32 [2, 2437, 569003] (k_ isP2 (k_ pq44 (k_ pq47 all_nil)))).isP
theorem pq49 : IsP 72106336199 := (pr 7 37 [2, 13, 2773320623] (k_ isP2 (k_ pq15 (k_ pq48 all_nil)))).isP
theorem pq50 : IsP 75445702479781427272750846543864801 := (pr 7 116 [2, 2, 2, 2, 2, 3, 3, 5, 5, 75707, 1919519569386763, 72106336199] (k_ isP2 (k_ isP2 (k_ isP2 (k_ isP2 (k_ isP2 (k_ pq1 (k_ pq1 (k_ pq8 (k_ pq8 (k_ pq37 (k_ pq43 (k_ pq49 all_nil))))))))))))).isP
theorem pq51 : IsP 74058212732561358302231226437062788676166966415465897661863160754340907 := (pr 2 236 [2, 3, 353, 57467, 132049, 1923133, 31757755568855353, 75445702479781427272750846543864801] (k_ isP2 (k_ pq1 (k_ pq10 (k_ pq14 (k_ pq17 (k_ pq21 (k_ pq32 (k_ pq50 all_nil))))))))).isP
theorem pq52 : IsP 34123 := (pr 2 16 [2, 3, 11, 11, 47] (k_ isP2 (k_ pq1 (k_ pq9 (k_ pq9 (k_ pq38 all_nil)))))).isP
theorem pq53 : IsP 409477 := (pr 2 19 [2, 2, 3, 34123] (k_ isP2 (k_ isP2 (k_ pq1 (k_ pq52 all_nil))))).isP
theorem pq54 : IsP 14741173 := (pr 2 24 [2, 2, 3, 3, 409477] (k_ isP2 (k_ isP2 (k_ pq1 (k_ pq1 (k_ pq53 all_nil)))))).isP
theorem pq55 : IsP 58964693 := (pr 2 26 [2, 2, 14741173] (k_ isP2 (k_ isP2 (k_ pq54 all_nil)))).isP
theorem pq56 : IsP 30703 := (pr 3 15 [2, 3, 7, 17, 43] (k_ isP2 (k_ pq1 (k_ pq3 (k_ pq2 (k_ pq18 all_nil)))))).isP
theorem pq57 : IsP 79 := (pr 3 7 [2, 3, 13] (k_ isP2 (k_ pq1 (k_ pq15 all_nil)))).isP
theorem pq58 : IsP 41081 := (pr 3 16 [2, 2, 2, 5, 13, 79] (k_ isP2 (k_ isP2 (k_ isP2 (k_ pq8 (k_ pq15 (k_ pq57 all_nil))))))).isP
theorem pq59 : IsP 82163 := (pr 2 17 [2, 41081] (k_ isP2 (k_ pq58 all_nil))).isP
theorem pq60 : IsP 17231 := (pr 13 15 [2, 5, 1723] (k_ isP2 (k_ pq8 (k_ pq30 all_nil)))).isP
theorem pq61 : IsP 137849 := (pr 3 18 [2, 2, 2, 17231] (k_ isP2 (k_ isP2 (k_ isP2 (k_ pq60 all_nil))))).isP
theorem pq62 : IsP 67 := (pr 2 7 [2, 3, 11] (k_ isP2 (k_ pq1 (k_ pq9 all_nil)))).isP
theorem pq63 : IsP 22111 := (pr 6 15 [2, 3, 5, 11, 67] (k_ isP2 (k_ pq1 (k_ pq8 (k_ pq9 (k_ pq62 all_nil)))))).isP
theorem pq64 : IsP 132667 := (pr 5 18 [2, 3, 22111] (k_ isP2 (k_ pq1 (k_ pq63 all_nil)))).isP
theorem pq65 : IsP 3044861653679985063343 := (pr 5 72 [2, 3, 11, 30703, 82163, 137849, 132667] (k_ isP2 (k_ pq1 (k_ pq9 (k_ pq56 (k_ pq59 (k_ pq61 (k_ pq64 all_nil)))))))).isP
theorem pq66 : IsP 198211423230930754013084525763697 := (pr 5 108 [2, 2, 2, 2, 3, 23, 58964693, 3044861653679985063343] (k_ isP2 (k_ isP2 (k_ isP2 (k_ isP2 (k_ pq1 (k_ pq19 (k_ pq55 (k_ pq65 all_nil))))))))).isP
theorem pq67 : IsP 269 := (pr 2 9 [2, 2, 67] (k_ isP2 (k_ isP2 (k_ pq62 all_nil)))).isP
theorem pq68 : IsP 73 := (pr 5 7 [2, 2, 2, 3, 3] (k_ isP2 (k_ isP2 (k_ isP2 (k_ pq1 (k_ pq1 all_nil)))))).isP
theorem pq69 : IsP 307 := (pr 5 9 [2, 3, 3, 17] (k_ isP2 (k_ pq1 (k_ pq1 (k_ pq2 all_nil))))).isP
theorem pq70 : IsP 113 := (pr 3 7 [2, 2, 2, 2, 7] (k_ isP2 (k_ isP2 (k_ isP2 (k_ isP2 (k_ pq3 all_nil)))))).isP
theorem pq71 : IsP 2939 := (pr 2 12 [2, 13, 113] (k_ isP2 (k_ pq15 (k_ pq70 all_nil)))).isP
theorem pq72 : IsP 5879 := (pr 11 13 [2, 2939] (k_ isP2 (k_ pq71 all_nil))).isP
theorem pq73 : IsP 292386187 := (pr 2 29 [2, 3, 3, 3, 3, 307, 5879] (k_ isP2 (k_ pq1 (k_ pq1 (k_ pq1 (k_ pq1 (k_ pq69 (k_ pq72 all_nil)))))))).isP
theorem pq74 : IsP 213441916511 := (pr 13 38 [2, 5, 73, 292386187] (k_ isP2 (k_ pq8 (k_ pq68 (k_ pq73 all_nil))))).isP
theorem pq75 : IsP 1361 := (pr 3 11 [2, 2, 2, 2, 5, 17] (k_ isP2 (k_ isP2 (k_ isP2 (k_ isP2 (k_ pq8 (k_ pq2 all_nil))))))).isP
theorem pq76 : IsP 2851 := (pr 2 12 [2, 3, 5, 5, 19] (k_ isP2 (k_ pq1 (k_ pq8 (k_ pq8 (k_ pq33 all_nil)))))).isP
theorem pq77 : IsP 2551 := (pr 6 12 [2, 3, 5, 5, 17] (k_ isP2 (k_ pq1 (k_ pq8 (k_ pq8 (k_ pq2 all_nil)))))).isP
theorem pq78 : IsP 1224481 := (pr 13 21 [2, 2, 2, 2, 2, 3, 5, 2551] (k_ isP2 (k_ isP2 (k_ isP2 (k_ isP2 (k_ isP2 (k_ pq1 (k_ pq8 (k_ pq77 all_nil))))))))).isP
theorem pq79 : IsP 3797 := (pr 2 12 [2, 2, 13, 73] (k_ isP2 (k_ isP2 (k_ pq15 (k_ pq68 all_nil))))).isP
theorem pq80 : IsP 531581 := (pr 2 20 [2, 2, 5, 7, 3797] (k_ isP2 (k_ isP2 (k_ pq8 (k_ pq3 (k_ pq79 all_nil)))))).isP
theorem pq81 : IsP 1257559732178653 := (pr 2 51 [2, 2, 3, 7, 23, 1224481, 531581] (k_ isP2 (k_ isP2 (k_ pq1 (k_ pq3 (k_ pq19 (k_ pq78 (k_ pq80 all_nil)))))))).isP
theorem pq82 : IsP 4434155615661930479 := (pr 17 62 [2, 41, 43, 1257559732178653] (k_ isP2 (k_ pq29 (k_ pq18 (k_ pq81 all_nil))))).isP
theorem pq83 : IsP 172054593956031949258510691 := (pr 2 88 [2, 5, 1361, 2851, 4434155615661930479] (k_ isP2 (k_ pq8 (k_ pq75 (k_ pq76 (k_ pq82 all_nil)))))).isP
theorem pq84 : IsP 19757330305831588566944191468367130476339 := (pr 2 134 [2, 269, 213441916511, 172054593956031949258510691] (k_ isP2 (k_ pq67 (k_ pq74 (k_ pq83 all_nil))))).isP
theorem pq85 : IsP 276602624281642239937218680557139826668747 := (pr 2 138 [2, 7, 19757330305831588566944191468367130476339] (k_ isP2 (k_ pq3 (k_ pq84 all_nil)))).isP
theorem genP : Gen 57896044618658097711785492504343953926634992332820282019728792003956564819949 2 := pr 2 255 [2, 2, 3, 65147, 74058212732561358302231226437062788676166966415465897661863160754340907] (k_ isP2 (k_ isP2 (k_ pq1 (k_ pq7 (k_ pq51 all_nil)))))
theorem isL : IsP 7237005577332262213973186563042994240857116359379907606001950938285454250989 := (pr 2 253 [2, 2, 3, 11, 198211423230930754013084525763697, 276602624281642239937218680557139826668747] (k_ isP2 (k_ isP2 (k_ pq1 (k_ pq9 (k_ pq66 (k_ pq85 all_nil))))))).isP
abbrev Fq := Fin pN
theorem genQ : Gen pN 2 := genP
theorem primeP : IsP pN := genQ.isP
theorem dvd_or {a b : Nat} (h : pN ∣ a * b) : pN ∣ a ∨ pN ∣ b := by
 by_cases ha : pN ∣ a
 ·exact .inl ha
 ·right
  have hg : Nat.Coprime pN a := by
   rcases primeP.2 _ (Nat.gcd_dvd_left pN a) with h1 | h1
   ·exact h1
   ·exact absurd (h1 ▸ Nat.gcd_dvd_right pN a) ha
  exact Nat.Coprime.dvd_of_dvd_mul_left hg h
theorem fq_zero {a : Fq} (h : pN ∣ a.val) : a = 0 := by
 apply Fin.ext
 have h1 := Nat.mod_eq_zero_of_dvd h
 rw [Nat.mod_eq_of_lt a.isLt] at h1
 rw [h1]
 rfl
theorem fq_mul {a b : Fq} (h : a * b = 0) : a = 0 ∨ b = 0 := by
 have h1 : a.val * b.val % pN = 0 := by
  have := congrArg Fin.val h
  rw [Fin.val_mul] at this
  exact this
 rcases dvd_or (Nat.dvd_of_mod_eq_zero h1) with h2 | h2
 ·exact .inl (fq_zero h2)
 ·exact .inr (fq_zero h2)
theorem fq_ne {a b : Fq} (ha : a ≠ 0) (hb : b ≠ 0) : a * b ≠ 0 := fun h => by
 rcases fq_mul h with h | h
 ·exact ha h
 ·exact hb h
theorem fermatN {a : Nat} (h0 : 0 < a) (h1 : a < pN) : a ^ (pN - 1) % pN = 1 := by
 obtain ⟨i, hi⟩ := genQ.all a h0 h1
 rw [← hi, ← Nat.pow_mod, ← Nat.pow_mul, Nat.mul_comm, Nat.pow_mul]
 exact one_pow_mod genQ.gt genQ.per i
def finv (a : Fq) : Fq := ⟨pmf pN 255 a.val (pN - 2) % pN, Nat.mod_lt _ (by decide)⟩
theorem finv_mul {a : Fq} (h : a ≠ 0) : a * finv a = 1 := by
 have h0 : 0 < a.val := by
  refine Nat.pos_of_ne_zero fun e => h ?_
  apply Fin.ext
  rw [e]
  rfl
 apply Fin.ext
 rw [Fin.val_mul]
 show a.val * (pmf pN 255 a.val (pN - 2) % pN) % pN = 1
 rw [pmf_eq pN 255 a.val _ (by decide), Nat.mod_mod, Nat.mul_mod_mod]
 have e : a.val * a.val ^ (pN - 2) = a.val ^ (pN - 1) := by
  rw [show pN - 1 = (pN - 2) + 1 by decide, Nat.pow_succ, Nat.mul_comm]
 rw [e]
 exact fermatN h0 a.isLt
def dE : Fq := 37095705934669439343138083508754565189542113879843219016388785533085940283555
def iE : Fq := 19681161376707505956807079304988542015446066515923890162744021073123829784752
theorem iE_sq : iE * iE = -1 := by decide +kernel
theorem dE_half : pmf pN 255 dE.val ((pN - 1) / 2) = pN - 1 := by decide +kernel
theorem not_sq (z : Fq) : z * z ≠ dE := by
 intro h
 have h1 : z.val * z.val % pN = dE.val := by
  have := congrArg Fin.val h
  rwa [Fin.val_mul] at this
 have h2 := dE_half
 rw [pmf_eq pN 255 _ _ (by decide), ← h1, ← Nat.pow_mod, ← Nat.pow_two, ← Nat.pow_mul, show 2 * ((pN - 1) / 2) = pN - 1 by decide] at h2
 by_cases hz : z.val = 0
 ·rw [hz, Nat.zero_pow (by decide)] at h2
  revert h2
  decide
 ·rw [fermatN (Nat.pos_of_ne_zero hz) z.isLt] at h2
  revert h2
  decide
theorem two_ne : (2 : Fq) ≠ 0 := by decide +kernel
theorem one_ne : (1 : Fq) ≠ 0 := by decide +kernel
def On (x y : Fq) : Prop := y * y - x * x = 1 + dE * (x * x * (y * y))
theorem sq_key {i d x1 y1 x2 y2 e : Fq} (hi : i * i = -1) (he : e * e = 1) (h1 : y1 * y1 - x1 * x1 = 1 + d * (x1 * x1 * (y1 * y1))) (h2 : y2 * y2 - x2 * x2 = 1 + d * (x2 * x2 * (y2 * y2))) (h : d * (x1 * x2 * (y1 * y2)) = e) :
  (i * (i * x1 + e * y1)) * (i * (i * x1 + e * y1)) = d * ((i * x1 * y1 * (i * x2 + y2)) * (i * x1 * y1 * (i * x2 + y2))) := by
 grind
theorem fq_cancel {a b c : Fq} (hc : c ≠ 0) (h : a * c = b * c) : a = b := by
 have h1 : (a - b) * c = 0 := by clear hc; grind
 rcases fq_mul h1 with h2 | h2
 ·clear h h1 hc
  grind
 ·exact absurd h2 hc
theorem no_root {A B : Fq} (h : A * A = dE * (B * B)) : B = 0 := by
 refine Classical.byContradiction fun hB => ?_
 have hi := finv_mul hB
 refine not_sq (A * finv B) ?_
 generalize finv B = c at hi ⊢
 grind
theorem nn (e : Fq) : -e * -e = e * e := by grind
theorem z4 {d x1 y1 x2 y2 : Fq} (h : x1 = 0) : d * (x1 * x2 * (y1 * y2)) = 0 := by rw [h]; grind
theorem z5 {d x1 y1 x2 y2 : Fq} (h : y1 = 0) : d * (x1 * x2 * (y1 * y2)) = 0 := by rw [h]; grind
theorem z6 {d x1 y1 x2 y2 : Fq} (h : y2 = 0) : d * (x1 * x2 * (y1 * y2)) = 0 := by rw [h]; grind
theorem z7 {i x y : Fq} (h1 : i * x + y = 0) (h2 : i * x + -y = 0) : 2 * y = 0 := by grind
theorem n1 (d x1 y1 x2 y2 : Fq) : d * (x1 * x2 * (y1 * -y2)) = -(d * (x1 * x2 * (y1 * y2))) := by grind
theorem n2 {d x y : Fq} (h : y * y - x * x = 1 + d * (x * x * (y * y))) : -y * -y - x * x = 1 + d * (x * x * (-y * -y)) := by rw [nn]; exact h
theorem n3 {a : Fq} (h : 1 + a = 0) : a = -1 := by grind
theorem n4 {a : Fq} (h : 1 - a = 0) : a = 1 := by grind
theorem n5 : (-1 : Fq) * -1 = 1 := by grind
theorem n6 : (1 : Fq) * 1 = 1 := by grind
theorem zz : (0 : Fq) * 0 = 0 := by grind
theorem den_ne {x1 y1 x2 y2 e : Fq} (h1 : On x1 y1) (h2 : On x2 y2) (he : e * e = 1) : dE * (x1 * x2 * (y1 * y2)) ≠ e := by
 intro h
 unfold On at h1 h2
 have k1 := no_root (sq_key iE_sq he h1 h2 h)
 have k2 := no_root (sq_key (i := iE) (e := -e) (y2 := -y2) iE_sq (by rw [nn]; exact he) h1 (n2 h2) (by rw [n1, h]))
 have he0 : e ≠ 0 := fun e0 => one_ne (by rw [← he, e0]; exact zz)
 have hx1 : x1 ≠ 0 := fun e0 => he0 (by rw [← h]; exact z4 e0)
 have hy1 : y1 ≠ 0 := fun e0 => he0 (by rw [← h]; exact z5 e0)
 have hy2 : y2 ≠ 0 := fun e0 => he0 (by rw [← h]; exact z6 e0)
 have hi : iE ≠ 0 := by decide +kernel
 have hw : iE * x1 * y1 ≠ 0 := fq_ne (fq_ne hi hx1) hy1
 rcases fq_mul k1 with h3 | h3
 ·exact hw h3
 ·rcases fq_mul k2 with h4 | h4
  ·exact hw h4
  ·rcases fq_mul (z7 h3 h4) with h5 | h5
   ·exact two_ne h5
   ·exact hy2 h5
theorem den_plus {x1 y1 x2 y2 : Fq} (h1 : On x1 y1) (h2 : On x2 y2) : 1 + dE * (x1 * x2 * (y1 * y2)) ≠ 0 := fun h => den_ne (e := -1) h1 h2 n5 (n3 h)
theorem den_minus {x1 y1 x2 y2 : Fq} (h1 : On x1 y1) (h2 : On x2 y2) : 1 - dE * (x1 * x2 * (y1 * y2)) ≠ 0 := fun h => den_ne (e := 1) h1 h2 n6 (n4 h)
structure Pt where
 x : Fq
 y : Fq
 on : On x y
theorem Pt.ext {p q : Pt} (hx : p.x = q.x) (hy : p.y = q.y) : p = q := by
 cases p
 cases q
 simp only at hx hy
 subst hx
 subst hy
 rfl
theorem on_key {d x1 y1 x2 y2 X Y : Fq} (h1 : y1 * y1 - x1 * x1 = 1 + d * (x1 * x1 * (y1 * y1))) (h2 : y2 * y2 - x2 * x2 = 1 + d * (x2 * x2 * (y2 * y2))) (hX : X * (1 + d * (x1 * x2 * (y1 * y2))) = x1 * y2 + y1 * x2) (hY : Y * (1 - d * (x1 * x2 * (y1 * y2))) = y1 * y2 + x1 * x2) :
  (Y * Y - X * X) * ((1 + d * (x1 * x2 * (y1 * y2))) * (1 - d * (x1 * x2 * (y1 * y2))) * ((1 + d * (x1 * x2 * (y1 * y2))) * (1 - d * (x1 * x2 * (y1 * y2))))) = (1 + d * (X * X * (Y * Y))) * ((1 + d * (x1 * x2 * (y1 * y2))) * (1 - d * (x1 * x2 * (y1 * y2))) * ((1 + d * (x1 * x2 * (y1 * y2))) * (1 - d * (x1 * x2 * (y1 * y2))))) := by
 have a : (X * (1 + d * (x1 * x2 * (y1 * y2)))) * (X * (1 + d * (x1 * x2 * (y1 * y2)))) = (x1 * y2 + y1 * x2) * (x1 * y2 + y1 * x2) := by rw [hX]
 have b : (Y * (1 - d * (x1 * x2 * (y1 * y2)))) * (Y * (1 - d * (x1 * x2 * (y1 * y2)))) = (y1 * y2 + x1 * x2) * (y1 * y2 + x1 * x2) := by rw [hY]
 have key : (y1 * y2 + x1 * x2) * (y1 * y2 + x1 * x2) * ((1 + d * (x1 * x2 * (y1 * y2))) * (1 + d * (x1 * x2 * (y1 * y2)))) - (x1 * y2 + y1 * x2) * (x1 * y2 + y1 * x2) * ((1 - d * (x1 * x2 * (y1 * y2))) * (1 - d * (x1 * x2 * (y1 * y2)))) = (1 + d * (x1 * x2 * (y1 * y2))) * (1 - d * (x1 * x2 * (y1 * y2))) * ((1 + d * (x1 * x2 * (y1 * y2))) * (1 - d * (x1 * x2 * (y1 * y2)))) + d * ((x1 * y2 + y1 * x2) * (x1 * y2 + y1 * x2) * ((y1 * y2 + x1 * x2) * (y1 * y2 + x1 * x2))) := by
  clear hX hY a b
  grind
 rw [← a, ← b] at key
 clear hX hY a b h1 h2
 generalize 1 + d * (x1 * x2 * (y1 * y2)) = u at *
 generalize 1 - d * (x1 * x2 * (y1 * y2)) = v at *
 grind
def sx (p q : Pt) : Fq := (p.x * q.y + p.y * q.x) * finv (1 + dE * (p.x * q.x * (p.y * q.y)))
def sy (p q : Pt) : Fq := (p.y * q.y + p.x * q.x) * finv (1 - dE * (p.x * q.x * (p.y * q.y)))
theorem div_mul {a c : Fq} (hc : c ≠ 0) : a * finv c * c = a := by
 have h := finv_mul hc
 generalize finv c = b at *
 clear hc
 grind
theorem sx_mul (p q : Pt) : sx p q * (1 + dE * (p.x * q.x * (p.y * q.y))) = p.x * q.y + p.y * q.x := div_mul (den_plus p.on q.on)
theorem sy_mul (p q : Pt) : sy p q * (1 - dE * (p.x * q.x * (p.y * q.y))) = p.y * q.y + p.x * q.x := div_mul (den_minus p.on q.on)
theorem s_on (p q : Pt) : On (sx p q) (sy p q) := by
 have h := on_key p.on q.on (sx_mul p q) (sy_mul p q)
 have h1 := den_plus p.on q.on
 have h2 := den_minus p.on q.on
 exact fq_cancel (fq_ne (fq_ne h1 h2) (fq_ne h1 h2)) h
def Pt.add (p q : Pt) : Pt := ⟨sx p q, sy p q, s_on p q⟩
def zeroP : Pt := ⟨0, 1, by unfold On; decide +kernel⟩
theorem neg_on {x y : Fq} (h : On x y) : On (-x) y := by
 unfold On at *
 rw [nn]
 exact h
def Pt.neg (p : Pt) : Pt := ⟨-p.x, p.y, neg_on p.on⟩
theorem add_eq {p q r : Pt} (h1 : r.x * (1 + dE * (p.x * q.x * (p.y * q.y))) = p.x * q.y + p.y * q.x) (h2 : r.y * (1 - dE * (p.x * q.x * (p.y * q.y))) = p.y * q.y + p.x * q.x) : p.add q = r :=
 Pt.ext (fq_cancel (den_plus p.on q.on) ((sx_mul p q).trans h1.symm)) (fq_cancel (den_minus p.on q.on) ((sy_mul p q).trans h2.symm))
theorem c1 (d a b c e X : Fq) (h : X * (1 + d * (a * c * (b * e))) = a * e + b * c) : X * (1 + d * (c * a * (e * b))) = c * b + e * a := by grind
theorem c2 (d a b c e X : Fq) (h : X * (1 - d * (a * c * (b * e))) = b * e + a * c) : X * (1 - d * (c * a * (e * b))) = e * b + c * a := by grind
theorem add_comm' (p q : Pt) : p.add q = q.add p := (add_eq (c1 _ _ _ _ _ _ (sx_mul p q)) (c2 _ _ _ _ _ _ (sy_mul p q))).symm
theorem c3 (d a b : Fq) : a * (1 + d * (a * 0 * (b * 1))) = a * 1 + b * 0 := by grind
theorem c4 (d a b : Fq) : b * (1 - d * (a * 0 * (b * 1))) = b * 1 + a * 0 := by grind
theorem add_zero' (p : Pt) : p.add zeroP = p := add_eq (c3 _ _ _) (c4 _ _ _)
theorem c5 (d a b : Fq) : 0 * (1 + d * (a * -a * (b * b))) = a * b + b * -a := by grind
theorem c6 {d a b : Fq} (h : b * b - a * a = 1 + d * (a * a * (b * b))) : 1 * (1 - d * (a * -a * (b * b))) = b * b + a * -a := by grind
theorem add_neg' (p : Pt) : p.add p.neg = zeroP := add_eq (c5 _ _ _) (c6 p.on)
theorem as_x {d x1 y1 x2 y2 x3 y3 : Fq} (e1 : y1 * y1 - x1 * x1 = 1 + d * (x1 * x1 * (y1 * y1))) (e2 : y2 * y2 - x2 * x2 = 1 + d * (x2 * x2 * (y2 * y2))) (e3 : y3 * y3 - x3 * x3 = 1 + d * (x3 * x3 * (y3 * y3))) :
  ((x1 * y2 + y1 * x2) * (1 - d * (x1 * x2 * (y1 * y2))) * y3 + (y1 * y2 + x1 * x2) * (1 + d * (x1 * x2 * (y1 * y2))) * x3) * ((1 + d * (x2 * x3 * (y2 * y3))) * (1 - d * (x2 * x3 * (y2 * y3))) + d * ((x2 * y3 + y2 * x3) * (y2 * y3 + x2 * x3) * (x1 * y1)))
  = ((x2 * y3 + y2 * x3) * (1 - d * (x2 * x3 * (y2 * y3))) * y1 + (y2 * y3 + x2 * x3) * (1 + d * (x2 * x3 * (y2 * y3))) * x1) * ((1 + d * (x1 * x2 * (y1 * y2))) * (1 - d * (x1 * x2 * (y1 * y2))) + d * ((x1 * y2 + y1 * x2) * (y1 * y2 + x1 * x2) * (x3 * y3))) := by
 grind
theorem as_y {d x1 y1 x2 y2 x3 y3 : Fq} (e1 : y1 * y1 - x1 * x1 = 1 + d * (x1 * x1 * (y1 * y1))) (e2 : y2 * y2 - x2 * x2 = 1 + d * (x2 * x2 * (y2 * y2))) (e3 : y3 * y3 - x3 * x3 = 1 + d * (x3 * x3 * (y3 * y3))) :
  ((y1 * y2 + x1 * x2) * (1 + d * (x1 * x2 * (y1 * y2))) * y3 + (x1 * y2 + y1 * x2) * (1 - d * (x1 * x2 * (y1 * y2))) * x3) * ((1 + d * (x2 * x3 * (y2 * y3))) * (1 - d * (x2 * x3 * (y2 * y3))) - d * ((x2 * y3 + y2 * x3) * (y2 * y3 + x2 * x3) * (x1 * y1)))
  = ((y2 * y3 + x2 * x3) * (1 + d * (x2 * x3 * (y2 * y3))) * y1 + (x2 * y3 + y2 * x3) * (1 - d * (x2 * x3 * (y2 * y3))) * x1) * ((1 + d * (x1 * x2 * (y1 * y2))) * (1 - d * (x1 * x2 * (y1 * y2))) - d * ((x1 * y2 + y1 * x2) * (y1 * y2 + x1 * x2) * (x3 * y3))) := by
 grind
theorem up_x {d A B u v X Y L x3 y3 : Fq} (hX : X * u = A) (hY : Y * v = B) (hL : L * (1 + d * (X * x3 * (Y * y3))) = X * y3 + Y * x3) : L * (u * v + d * (A * B * (x3 * y3))) = A * v * y3 + B * u * x3 := by
 subst hX
 subst hY
 grind
theorem up_y {d A B u v X Y L x3 y3 : Fq} (hX : X * u = A) (hY : Y * v = B) (hL : L * (1 - d * (X * x3 * (Y * y3))) = Y * y3 + X * x3) : L * (u * v - d * (A * B * (x3 * y3))) = B * u * y3 + A * v * x3 := by
 subst hX
 subst hY
 grind
theorem up_d {d A B u v X Y x3 y3 : Fq} (hX : X * u = A) (hY : Y * v = B) : (1 + d * (X * x3 * (Y * y3))) * (u * v) = u * v + d * (A * B * (x3 * y3)) := by
 subst hX
 subst hY
 grind
theorem up_e {d A B u v X Y x3 y3 : Fq} (hX : X * u = A) (hY : Y * v = B) : (1 - d * (X * x3 * (Y * y3))) * (u * v) = u * v - d * (A * B * (x3 * y3)) := by
 subst hX
 subst hY
 grind
theorem cross {L M N K D E : Fq} (h1 : L * D = N) (h2 : M * E = K) (h3 : N * E = K * D) (hD : D ≠ 0) (hE : E ≠ 0) : L = M := by
 refine fq_cancel (fq_ne hD hE) ?_
 subst h1
 subst h2
 clear hD hE
 grind
theorem add_assoc' (p q r : Pt) : (p.add q).add r = p.add (q.add r) := by
 have a1 := sx_mul p q
 have a2 := sy_mul p q
 have b1 := sx_mul q r
 have b2 := sy_mul q r
 have d1 := fq_ne (den_plus (p.add q).on r.on) (fq_ne (den_plus p.on q.on) (den_minus p.on q.on))
 have d2 := fq_ne (den_plus (q.add r).on p.on) (fq_ne (den_plus q.on r.on) (den_minus q.on r.on))
 have f1 := fq_ne (den_minus (p.add q).on r.on) (fq_ne (den_plus p.on q.on) (den_minus p.on q.on))
 have f2 := fq_ne (den_minus (q.add r).on p.on) (fq_ne (den_plus q.on r.on) (den_minus q.on r.on))
 rw [show (p.add q).x = sx p q from rfl, show (p.add q).y = sy p q from rfl, up_d a1 a2] at d1
 rw [show (q.add r).x = sx q r from rfl, show (q.add r).y = sy q r from rfl, up_d b1 b2] at d2
 rw [show (p.add q).x = sx p q from rfl, show (p.add q).y = sy p q from rfl, up_e a1 a2] at f1
 rw [show (q.add r).x = sx q r from rfl, show (q.add r).y = sy q r from rfl, up_e b1 b2] at f2
 rw [add_comm' p (q.add r)]
 refine Pt.ext ?_ ?_
 ·exact cross (up_x a1 a2 (sx_mul (p.add q) r)) (up_x b1 b2 (sx_mul (q.add r) p)) (as_x p.on q.on r.on) d1 d2
 ·exact cross (up_y a1 a2 (sy_mul (p.add q) r)) (up_y b1 b2 (sy_mul (q.add r) p)) (as_y p.on q.on r.on) f1 f2
def Pt.mul (p : Pt) : Nat → Pt
 | 0 => zeroP
 | n + 1 => (p.mul n).add p
theorem mul_add' (p : Pt) (m : Nat) : ∀ n, p.mul (m + n) = (p.mul m).add (p.mul n)
 | 0 => (add_zero' _).symm
 | n + 1 => by
  show (p.mul (m + n)).add p = (p.mul m).add ((p.mul n).add p)
  rw [mul_add' p m n, add_assoc']
theorem zero_mul' : ∀ n, zeroP.mul n = zeroP
 | 0 => rfl
 | n + 1 => by
  show (zeroP.mul n).add zeroP = zeroP
  rw [add_zero', zero_mul' n]
theorem mul_mul' (p : Pt) (m : Nat) : ∀ n, p.mul (m * n) = (p.mul m).mul n
 | 0 => rfl
 | n + 1 => by
  show p.mul (m * n + m) = ((p.mul m).mul n).add (p.mul m)
  rw [mul_add', mul_mul' p m n]
def toF (a : Int) : Fq := ⟨(a % Pm).toNat, by have := pmod a; have := pN_P; omega⟩
theorem toF_val (a : Int) : (((toF a).val : Nat) : Int) = a % Pm := by
 show (((a % Pm).toNat : Nat) : Int) = a % Pm
 have := pmod a
 omega
theorem fq_int {a b : Fq} (h : ((a.val : Nat) : Int) = ((b.val : Nat) : Int)) : a = b := Fin.ext (by omega)
theorem toF_mod (a : Int) : toF (a % Pm) = toF a := by
 refine fq_int ?_
 rw [toF_val, toF_val, Int.emod_emod_of_dvd _ (Int.dvd_refl _)]
theorem toF_add (a b : Int) : toF (a + b) = toF a + toF b := by
 refine fq_int ?_
 rw [toF_val, Fin.val_add, Int.natCast_emod, Int.natCast_add, toF_val, toF_val, pN_P, ← Int.add_emod]
theorem toF_mul (a b : Int) : toF (a * b) = toF a * toF b := by
 refine fq_int ?_
 rw [toF_val, Fin.val_mul, Int.natCast_emod, Int.natCast_mul, toF_val, toF_val, pN_P, ← Int.mul_emod]
theorem toF_sub (a b : Int) : toF (a - b) = toF a - toF b := by
 have h := toF_add (a - b) b
 rw [show a - b + b = a by omega] at h
 rw [h]
 generalize toF (a - b) = u
 generalize toF b = v
 grind
theorem toF_inj {a b : Int} (ha : 0 ≤ a ∧ a < Pm) (hb : 0 ≤ b ∧ b < Pm) (h : toF a = toF b) : a = b := by
 have h2 := congrArg (fun x : Fq => ((x.val : Nat) : Int)) h
 simp only [toF_val] at h2
 rwa [Int.emod_eq_of_lt ha.1 ha.2, Int.emod_eq_of_lt hb.1 hb.2] at h2
theorem toF_zero : toF 0 = 0 := by decide +kernel
theorem toF_one : toF 1 = 1 := by decide +kernel
def hlf : Fq := finv 2
theorem hlf_two : 2 * hlf = 1 := finv_mul two_ne
theorem proj {X Z Y : Fq} (h : X * (1 - Y) = Z * (1 + Y)) (hne : ¬ (X = 0 ∧ Z = 0)) : ∃ l, l ≠ 0 ∧ X = l * (1 + Y) ∧ Z = l * (1 - Y) := by
 have hh := hlf_two
 have e1 : X = (X + Z) * hlf * (1 + Y) := by
  clear hne
  generalize hlf = t at *
  grind
 have e2 : Z = (X + Z) * hlf * (1 - Y) := by
  clear hne e1
  generalize hlf = t at *
  grind
 refine ⟨(X + Z) * hlf, fun h0 => hne ?_, e1, e2⟩
 rw [h0] at e1 e2
 clear h hne h0 hh
 exact ⟨by grind, by grind⟩
theorem dbl_id {d a x y Y l : Fq} (hd : d * (a + 1) = -a) (h : y * y - x * x = 1 + d * (x * x * (y * y))) (hY : Y * (1 - d * (x * x * (y * y))) = y * y + x * x) :
  (((l * (1 + y) + l * (1 - y)) * (l * (1 + y) + l * (1 - y))) * ((l * (1 + y) - l * (1 - y)) * (l * (1 + y) - l * (1 - y))) * (1 - Y)) * (1 - d * (x * x * (y * y)))
  = (((l * (1 + y) + l * (1 - y)) * (l * (1 + y) + l * (1 - y)) - (l * (1 + y) - l * (1 - y)) * (l * (1 + y) - l * (1 - y))) * ((l * (1 + y) + l * (1 - y)) * (l * (1 + y) + l * (1 - y)) + a * ((l * (1 + y) + l * (1 - y)) * (l * (1 + y) + l * (1 - y)) - (l * (1 + y) - l * (1 - y)) * (l * (1 + y) - l * (1 - y)))) * (1 + Y)) * (1 - d * (x * x * (y * y))) := by
 have e1 : (1 - Y) * (1 - d * (x * x * (y * y))) = 2 - 2 * (y * y) := by grind
 have e2 : (1 + Y) * (1 - d * (x * x * (y * y))) = 2 + 2 * (x * x) := by grind
 have e3 : y * y = (1 + a * (1 - y * y)) * (1 + x * x) := by
  clear e1 e2 hY
  grind
 have f1 : (l * (1 + y) + l * (1 - y)) = 2 * l := by grind
 have f2 : (l * (1 + y) - l * (1 - y)) = 2 * l * y := by grind
 rw [f1, f2]
 generalize 1 - d * (x * x * (y * y)) = v at *
 clear h hd hY f1 f2
 have g1 : 2 * l * (2 * l) * (2 * l * y * (2 * l * y)) * (1 - Y) * v = 16 * (l * l * (l * l)) * (y * y) * ((1 - Y) * v) := by grind
 have g2 : (2 * l * (2 * l) - 2 * l * y * (2 * l * y)) * (2 * l * (2 * l) + a * (2 * l * (2 * l) - 2 * l * y * (2 * l * y))) * (1 + Y) * v = 16 * (l * l * (l * l)) * (1 - y * y) * (1 + a * (1 - y * y)) * ((1 + Y) * v) := by grind
 rw [g1, g2, e1, e2]
 clear g1 g2 e1 e2
 have g3 : 16 * (l * l * (l * l)) * (1 - y * y) * (1 + a * (1 - y * y)) * (2 + 2 * (x * x)) = 32 * (l * l * (l * l)) * (1 - y * y) * ((1 + a * (1 - y * y)) * (1 + x * x)) := by
  clear e3
  grind
 rw [g3, ← e3]
 clear e3 g3
 grind
theorem add_id {d xp yp xq yq : Fq} (h1 : yp * yp - xp * xp = 1 + d * (xp * xp * (yp * yp))) (h2 : yq * yq - xq * xq = 1 + d * (xq * xq * (yq * yq))) :
  (yp + yq) * (yp + yq) * ((1 - d * (xp * xq * (yp * yq)) - (yp * yq + xp * xq)) * (1 + d * (xp * xq * (yp * yq)) - (yp * yq - xp * xq)))
  = (yq - yp) * (yq - yp) * ((1 - d * (xp * xq * (yp * yq)) + (yp * yq + xp * xq)) * (1 + d * (xp * xq * (yp * yq)) + (yp * yq - xp * xq))) := by
 grind
theorem sq_zero {a : Fq} (h : a * a = 0) : a = 0 := by
 rcases fq_mul h with h | h <;> exact h
theorem kst : dE * (toF 121665 + 1) = -toF 121665 := by decide +kernel
theorem kst_ne : toF 121665 + 1 ≠ 0 := by decide +kernel
theorem tm1 (l y : Fq) : (l * (1 + y) + l * (1 - y)) = 2 * l := by grind
theorem tm2 (l y : Fq) : (l * (1 + y) - l * (1 - y)) = 2 * l * y := by grind
theorem tm3 (l a : Fq) : (2 * l * (2 * l) - 2 * l * 0 * (2 * l * 0)) * (2 * l * (2 * l) + a * (2 * l * (2 * l) - 2 * l * 0 * (2 * l * 0))) = (2 * l * (2 * l)) * (2 * l * (2 * l)) * (a + 1) := by grind
theorem dbl_nz {a l y : Fq} (hl : l ≠ 0) (ha : a + 1 ≠ 0) : ¬ ((l * (1 + y) + l * (1 - y)) * (l * (1 + y) + l * (1 - y)) * ((l * (1 + y) - l * (1 - y)) * (l * (1 + y) - l * (1 - y))) = 0 ∧ ((l * (1 + y) + l * (1 - y)) * (l * (1 + y) + l * (1 - y)) - (l * (1 + y) - l * (1 - y)) * (l * (1 + y) - l * (1 - y))) * ((l * (1 + y) + l * (1 - y)) * (l * (1 + y) + l * (1 - y)) + a * ((l * (1 + y) + l * (1 - y)) * (l * (1 + y) + l * (1 - y)) - (l * (1 + y) - l * (1 - y)) * (l * (1 + y) - l * (1 - y)))) = 0) := by
 rw [tm1, tm2]
 intro ⟨h1, h2⟩
 have h2l := fq_ne two_ne hl
 have hy : y = 0 := by
  rcases fq_mul h1 with h | h
  ·exact absurd (sq_zero h) h2l
  ·rcases fq_mul (sq_zero h) with h | h
   ·exact absurd h h2l
   ·exact h
 rw [hy, tm3] at h2
 exact fq_ne (fq_ne (fq_ne h2l h2l) (fq_ne h2l h2l)) ha h2
theorem tm4 {A B C D u v X S yD : Fq} (hS1 : A = u * (1 - S)) (hS2 : B = u * (1 + S)) (hD1 : C = v * (1 - yD)) (hD2 : D = v * (1 + yD)) (hX : X * (1 - yD) = 1 + yD) {s t : Fq} (h : s * (A * C) = t * (B * D)) : s * (1 - S) * (u * v * (1 - yD)) = X * t * (1 + S) * (u * v * (1 - yD)) := by
 rw [← hX] at hD2
 rw [hS1, hS2, hD1, hD2] at h
 clear hS1 hS2 hD1 hD2 hX
 grind
theorem tm5 {u S t : Fq} (h : S * u = t) : u - t = u * (1 - S) := by grind
theorem tm6 {u S t : Fq} (h : S * u = t) : u + t = u * (1 + S) := by grind
theorem tm7 {k l yp yq S X : Fq} (h : (yp + yq) * (yp + yq) * (1 - S) = X * ((yq - yp) * (yq - yp)) * (1 + S)) :
  (2 * k * yq * (2 * l) + 2 * k * (2 * l * yp)) * (2 * k * yq * (2 * l) + 2 * k * (2 * l * yp)) * (1 - S) = X * ((2 * k * yq * (2 * l) - 2 * k * (2 * l * yp)) * (2 * k * yq * (2 * l) - 2 * k * (2 * l * yp))) * (1 + S) := by
 have e1 : (2 * k * yq * (2 * l) + 2 * k * (2 * l * yp)) * (2 * k * yq * (2 * l) + 2 * k * (2 * l * yp)) * (1 - S) = 16 * (k * k * (l * l)) * ((yp + yq) * (yp + yq) * (1 - S)) := by
  clear h
  grind
 have e2 : X * ((2 * k * yq * (2 * l) - 2 * k * (2 * l * yp)) * (2 * k * yq * (2 * l) - 2 * k * (2 * l * yp))) * (1 + S) = 16 * (k * k * (l * l)) * (X * ((yq - yp) * (yq - yp)) * (1 + S)) := by
  clear h e1
  grind
 rw [e1, e2, h]
theorem tm8 (k l yp yq : Fq) : 2 * k * yq * (2 * l) + 2 * k * (2 * l * yp) = 2 * k * (2 * l) * (yp + yq) := by grind
theorem tm9 (k l yp yq : Fq) : 2 * k * yq * (2 * l) - 2 * k * (2 * l * yp) = 2 * k * (2 * l) * (yq - yp) := by grind
theorem tm10 {yp yq : Fq} (h1 : yp + yq = 0) (h2 : yq - yp = 0) : 2 * yp = 0 ∧ 2 * yq = 0 := by
 constructor <;> grind
theorem u4a (z : Fq) : z * 0 = 0 := by grind
theorem u0a {u v z : Fq} (h : z - u = v + z) : u + v = 0 := by grind
theorem u1a {d u : Fq} (h : (0 : Fq) * 0 - u = 1 + d * (u * (0 * 0))) : u + 1 = 0 := by
 rw [zz, u4a, u4a] at h
 exact u0a h
theorem u2a {d u v : Fq} (h : v * (1 + d * (u * (0 * 0))) = 0 * 0 - u) : v + u = 0 := by grind
theorem u3a {u v w z : Fq} (h1 : u * u + 1 = 0) (h2 : w * w + 1 = 0) (h3 : v + u * w = 0) : (1 - v) * (1 + v) = z * 0 := by grind
theorem tm11 {d xp xq yD : Fq} (h1 : (0 : Fq) * 0 - xp * xp = 1 + d * (xp * xp * (0 * 0))) (h2 : (0 : Fq) * 0 - xq * xq = 1 + d * (xq * xq * (0 * 0))) (hD : yD * (1 + d * (xp * xq * (0 * 0))) = 0 * 0 - xp * xq) : (1 - yD) * (1 + yD) = 0 :=
 (u3a (z := d) (u1a h1) (u1a h2) (u2a hD)).trans (u4a d)
theorem u5a {w z t : Fq} (hi : z * t = 1) : w = t * (w * z) := by grind
theorem u6a (z t : Fq) : z * t = t * z := by grind
theorem add_nz {k l X yD : Fq} {p r : Pt} (hk : k ≠ 0) (hl : l ≠ 0) (hX0 : X ≠ 0) (hX : X * (1 - yD) = 1 + yD) (hD1 : 1 - yD ≠ 0) (hD : yD * (1 + dE * (p.x * r.x * (p.y * r.y))) = p.y * r.y - p.x * r.x) :
  ¬ ((2 * k * r.y * (2 * l) + 2 * k * (2 * l * p.y)) * (2 * k * r.y * (2 * l) + 2 * k * (2 * l * p.y)) = 0 ∧ X * ((2 * k * r.y * (2 * l) - 2 * k * (2 * l * p.y)) * (2 * k * r.y * (2 * l) - 2 * k * (2 * l * p.y))) = 0) := by
 rw [tm8, tm9]
 intro ⟨h1, h2⟩
 have hkl := fq_ne (fq_ne two_ne hk) (fq_ne two_ne hl)
 have a1 : p.y + r.y = 0 := by
  rcases fq_mul (sq_zero h1) with h | h
  ·exact absurd h hkl
  ·exact h
 have a2 : r.y - p.y = 0 := by
  rcases fq_mul h2 with h | h
  ·exact absurd h hX0
  ·rcases fq_mul (sq_zero h) with h | h
   ·exact absurd h hkl
   ·exact h
 obtain ⟨b1, b2⟩ := tm10 a1 a2
 have c1 : p.y = 0 := by
  rcases fq_mul b1 with h | h
  ·exact absurd h two_ne
  ·exact h
 have c2 : r.y = 0 := by
  rcases fq_mul b2 with h | h
  ·exact absurd h two_ne
  ·exact h
 have o1 := p.on
 have o2 := r.on
 unfold On at o1 o2
 rw [c1] at o1 hD
 rw [c2] at o2 hD
 rcases fq_mul (tm11 o1 o2 hD) with h | h
 ·exact hD1 h
 ·rw [h] at hX
  rcases fq_mul hX with h | h
  ·exact hX0 h
  ·exact hD1 h
def Tl (X Z : Int) (y : Fq) : Prop := ∃ l, l ≠ 0 ∧ toF X = l * (1 + y) ∧ toF Z = l * (1 - y)
theorem step_tl {X1 : Int} {q : RS} {p r : Pt} {yD : Fq} (hp : Tl q.x2 q.z2 p.y) (hr : Tl q.x3 q.z3 r.y) (hX0 : toF X1 ≠ 0) (hX : toF X1 * (1 - yD) = 1 + yD) (hD1 : 1 - yD ≠ 0) (hD : yD * (1 + dE * (p.x * r.x * (p.y * r.y))) = p.y * r.y - p.x * r.x) :
  Tl (rstep X1 q).x2 (rstep X1 q).z2 (p.add p).y ∧ Tl (rstep X1 q).x3 (rstep X1 q).z3 (p.add r).y := by
 obtain ⟨l, hl, e1, e2⟩ := hp
 obtain ⟨k, hk, e3, e4⟩ := hr
 refine ⟨?_, ?_⟩
 ·show ∃ l, l ≠ 0 ∧ toF (rstep X1 q).x2 = l * (1 + sy p p) ∧ toF (rstep X1 q).z2 = l * (1 - sy p p)
  have E1 : toF (rstep X1 q).x2 = (l * (1 + p.y) + l * (1 - p.y)) * (l * (1 + p.y) + l * (1 - p.y)) * ((l * (1 + p.y) - l * (1 - p.y)) * (l * (1 + p.y) - l * (1 - p.y))) := by
   simp only [rstep, toF_mod, toF_mul, toF_add, toF_sub, e1, e2]
  have E2 : toF (rstep X1 q).z2 = ((l * (1 + p.y) + l * (1 - p.y)) * (l * (1 + p.y) + l * (1 - p.y)) - (l * (1 + p.y) - l * (1 - p.y)) * (l * (1 + p.y) - l * (1 - p.y))) * ((l * (1 + p.y) + l * (1 - p.y)) * (l * (1 + p.y) + l * (1 - p.y)) + toF 121665 * ((l * (1 + p.y) + l * (1 - p.y)) * (l * (1 + p.y) + l * (1 - p.y)) - (l * (1 + p.y) - l * (1 - p.y)) * (l * (1 + p.y) - l * (1 - p.y)))) := by
   simp only [rstep, toF_mod, toF_mul, toF_add, toF_sub, e1, e2]
  rw [E1, E2]
  exact proj (fq_cancel (den_minus p.on p.on) (dbl_id kst p.on (sy_mul p p))) (dbl_nz hl kst_ne)
 ·show ∃ l, l ≠ 0 ∧ toF (rstep X1 q).x3 = l * (1 + sy p r) ∧ toF (rstep X1 q).z3 = l * (1 - sy p r)
  have E1 : toF (rstep X1 q).x3 = (2 * k * r.y * (2 * l) + 2 * k * (2 * l * p.y)) * (2 * k * r.y * (2 * l) + 2 * k * (2 * l * p.y)) := by
   simp only [rstep, toF_mod, toF_mul, toF_add, toF_sub, e1, e2, e3, e4, tm1, tm2]
  have E2 : toF (rstep X1 q).z3 = toF X1 * ((2 * k * r.y * (2 * l) - 2 * k * (2 * l * p.y)) * (2 * k * r.y * (2 * l) - 2 * k * (2 * l * p.y))) := by
   simp only [rstep, toF_mod, toF_mul, toF_add, toF_sub, e1, e2, e3, e4, tm1, tm2]
  rw [E1, E2]
  refine proj (tm7 ?_) (add_nz hk hl hX0 hX hD1 hD)
  have hS := sy_mul p r
  refine fq_cancel (fq_ne (fq_ne (den_minus p.on r.on) (den_plus p.on r.on)) hD1) ?_
  exact tm4 (tm5 hS) (tm6 hS) (tm5 hD) (tm6 hD) hX (add_id p.on r.on)
theorem diff_y {p P : Pt} : P.y * (1 + dE * (p.x * (p.add P).x * (p.y * (p.add P).y))) = p.y * (p.add P).y - p.x * (p.add P).x := by
 have e : (p.add P).add p.neg = P := by rw [add_comm' p P, add_assoc', add_neg', add_zero']
 have h := sy_mul (p.add P) p.neg
 have hy : sy (p.add P) p.neg = P.y := congrArg Pt.y e
 rw [hy] at h
 rw [show p.neg.x = -p.x from rfl, show p.neg.y = p.y from rfl] at h
 generalize (p.add P).x = a at *
 generalize (p.add P).y = b at *
 generalize P.y = c at *
 clear e hy
 generalize p.x = u at *
 generalize p.y = v at *
 grind
def nk (K : Yb) : Nat → Nat
 | 0 => 0
 | k + 1 => 2 * nk K k + (bit K (254 - k)).toNat
theorem hlf_ne : hlf ≠ 0 := by decide +kernel
theorem l1a : toF 1 = hlf * (1 + 1) := by decide +kernel
theorem l0a : toF 0 = hlf * (1 - 1) := by decide +kernel
theorem tl0 : Tl 1 0 1 := ⟨hlf, hlf_ne, l1a, l0a⟩
theorem lad_tl (K : Yb) {X1 : Int} {P : Pt} (hX0 : toF X1 ≠ 0) (hX : toF X1 * (1 - P.y) = 1 + P.y) (hD1 : 1 - P.y ≠ 0) :
  ∀ k, Tl (rladF K X1 k).x2 (rladF K X1 k).z2 (P.mul (nk K k)).y ∧ Tl (rladF K X1 k).x3 (rladF K X1 k).z3 (P.mul (nk K k + 1)).y
 | 0 => by
  refine ⟨tl0, ?_⟩
  ·have e : P.mul (0 + 1) = P := by
    show zeroP.add P = P
    rw [add_comm', add_zero']
   show Tl X1 1 (P.mul (0 + 1)).y
   rw [e]
   have hi := finv_mul hD1
   refine ⟨finv (1 - P.y), fun h => ?_, ?_, ?_⟩
   ·rw [h] at hi
    exact one_ne (hi.symm.trans (u4a _))
   ·rw [← hX]
    exact u5a hi
   ·rw [toF_one]
    exact hi.symm.trans (u6a _ _)
 | k + 1 => by
  obtain ⟨h1, h2⟩ := lad_tl K hX0 hX hD1 k
  have hn : P.mul (nk K k + 1) = (P.mul (nk K k)).add P := rfl
  unfold rladF
  rcases bit_two K (254 - k) with hb | hb
  ·rw [if_pos hb]
   have e1 : nk K (k + 1) = nk K k + nk K k := by
    show 2 * nk K k + (bit K (254 - k)).toNat = _
    rw [hb]
    show 2 * nk K k + 0 = _
    omega
   have e2 : nk K (k + 1) + 1 = nk K k + (nk K k + 1) := by omega
   rw [e2, mul_add', e1, mul_add']
   exact step_tl h1 h2 hX0 hX hD1 (by rw [hn]; exact diff_y)
  ·rw [if_neg (by rw [hb]; decide)]
   have e1 : nk K (k + 1) = nk K k + 1 + nk K k := by
    show 2 * nk K k + (bit K (254 - k)).toNat = _
    rw [hb]
    show 2 * nk K k + 1 = _
    omega
   have e2 : nk K (k + 1) + 1 = nk K k + 1 + (nk K k + 1) := by omega
   rw [e2, mul_add', e1, mul_add']
   have hd : P.y * (1 + dE * ((P.mul (nk K k + 1)).x * (P.mul (nk K k)).x * ((P.mul (nk K k + 1)).y * (P.mul (nk K k)).y))) = (P.mul (nk K k + 1)).y * (P.mul (nk K k)).y - (P.mul (nk K k + 1)).x * (P.mul (nk K k)).x := by
    have h := diff_y (p := P.mul (nk K k)) (P := P)
    rw [← hn] at h
    generalize (P.mul (nk K k + 1)).x = a at *
    generalize (P.mul (nk K k + 1)).y = b at *
    generalize (P.mul (nk K k)).x = u at *
    generalize (P.mul (nk K k)).y = v at *
    generalize P.y = c at *
    clear hX hD1 h1 h2 hn
    grind
   have h3 := step_tl (q := (rladF K X1 k).swap) h2 h1 hX0 hX hD1 hd
   exact ⟨h3.2, h3.1⟩
def baseP : Pt := ⟨42783823269122696939284341094755422415180979639778424813682678720006717057747, 46316835694926478169428394003475163141307993866256225615783033603165251855960, by unfold On; decide +kernel⟩
theorem nine_base : toF 9 * (1 - baseP.y) = 1 + baseP.y := by decide +kernel
theorem nine_ne : toF 9 ≠ 0 := by decide +kernel
theorem base_ne : 1 - baseP.y ≠ 0 := by decide +kernel
theorem y_one {P : Pt} (h : 1 - P.y = 0) : P = zeroP := by
 have hy : P.y = 1 := n4 h
 have ho := P.on
 unfold On at ho
 rw [hy] at ho
 have e : (dE + 1) * (P.x * P.x) = 0 := by
  generalize P.x = u at *
  generalize dE = d at *
  clear hy h
  grind
 have hd : dE + 1 ≠ 0 := by decide +kernel
 have hx : P.x = 0 := by
  rcases fq_mul e with h1 | h1
  ·exact absurd h1 hd
  ·exact sq_zero h1
 exact Pt.ext hx hy
theorem y_minus {P : Pt} (h : 1 + P.y = 0) : P.add P = zeroP := by
 have hy : P.y = -1 := n3 h
 have ho := P.on
 unfold On at ho
 rw [hy] at ho
 have e : (dE + 1) * (P.x * P.x) = 0 := by
  generalize P.x = u at *
  generalize dE = d at *
  clear hy h
  grind
 have hd : dE + 1 ≠ 0 := by decide +kernel
 have hx : P.x = 0 := by
  rcases fq_mul e with h1 | h1
  ·exact absurd h1 hd
  ·exact sq_zero h1
 refine add_eq ?_ ?_
 ·rw [hx, hy]
  decide +kernel
 ·rw [hx, hy]
  decide +kernel
def oB : ByteArray := lebytes 7237005577332262213973186563042994240857116359379907606001950938285454250989
def oN : Nat := 7237005577332262213973186563042994240857116359379907606001950938285454250989
theorem oB_n : nk oB 255 = oN := by decide +kernel
theorem oB_z : (rladF oB 9 255).z2 = 0 := by decide +kernel
theorem ord_zero : baseP.mul oN = zeroP := by
 obtain ⟨l, hl, _, h2⟩ := (lad_tl oB nine_ne nine_base base_ne 255).1
 rw [oB_z, oB_n, toF_zero] at h2
 rcases fq_mul h2.symm with h | h
 ·exact absurd h hl
 ·exact y_one h
theorem base_nz : baseP ≠ zeroP := fun h => base_ne (by rw [h]; decide +kernel)
theorem isO : IsP oN := isL
theorem ord_dvd {k : Nat} (h : baseP.mul k = zeroP) : oN ∣ k := by
 have hg : baseP.mul (Nat.gcd oN k) = zeroP := by
  have key : ∀ (m n : Nat), baseP.mul m = zeroP → baseP.mul n = zeroP → baseP.mul (Nat.gcd m n) = zeroP := by
   intro m n
   induction m, n using Nat.gcd.induction with
   | H0 n => intro _ hn; rwa [Nat.gcd_zero_left]
   | H1 m n hm ih =>
    intro h1 h2
    rw [Nat.gcd_rec]
    refine ih ?_ h1
    have e : n = m * (n / m) + n % m := (Nat.div_add_mod n m).symm
    have h3 : baseP.mul n = (baseP.mul (m * (n / m))).add (baseP.mul (n % m)) := by
     conv => lhs; rw [e]
     rw [mul_add']
    rw [mul_mul', h1, zero_mul', add_comm', add_zero'] at h3
    rw [← h3]
    exact h2
  exact key oN k ord_zero h
 rcases isO.2 _ (Nat.gcd_dvd_left oN k) with h1 | h1
 ·exfalso
  rw [h1] at hg
  refine base_nz ?_
  have e : baseP.mul 1 = baseP := by
   show zeroP.add baseP = baseP
   rw [add_comm', add_zero']
  exact e.symm.trans hg
 ·have := Nat.gcd_dvd_right oN k
  rwa [h1] at this
theorem isO_mul {a b : Nat} (h : oN ∣ a * b) : oN ∣ a ∨ oN ∣ b := by
 by_cases ha : oN ∣ a
 ·exact .inl ha
 ·right
  have hg : Nat.Coprime oN a := by
   rcases isO.2 _ (Nat.gcd_dvd_left oN a) with h1 | h1
   ·exact h1
   ·exact absurd (h1 ▸ Nat.gcd_dvd_right oN a) ha
  exact Nat.Coprime.dvd_of_dvd_mul_left hg h
structure Tells (V : Int) (k : Nat) : Prop where
 bd : 0 ≤ V ∧ V < Pm
 nz : ¬ oN ∣ k
 eq : toF V * (1 - (baseP.mul k).y) = 1 + (baseP.mul k).y
theorem two_o : ¬ oN ∣ 2 := by decide
theorem mul_y {k : Nat} (h : ¬ oN ∣ k) : 1 - (baseP.mul k).y ≠ 0 ∧ 1 + (baseP.mul k).y ≠ 0 := by
 refine ⟨fun h1 => h (ord_dvd (y_one h1)), fun h1 => ?_⟩
 have h2 := y_minus h1
 rw [← mul_add'] at h2
 have h3 := ord_dvd h2
 rw [← Nat.two_mul] at h3
 rcases isO_mul h3 with h4 | h4
 ·exact two_o h4
 ·exact h h4
theorem Tells.ne {V : Int} {k : Nat} (h : Tells V k) : toF V ≠ 0 := fun h0 => by
 have h1 := h.eq
 rw [h0] at h1
 refine (mul_y h.nz).2 ?_
 rw [← h1, u6a, u4a]
theorem Tells.ne0 {V : Int} {k : Nat} (h : Tells V k) : V ≠ 0 := fun h0 => h.ne (by rw [h0]; exact toF_zero)
theorem Tells.one {V W : Int} {k : Nat} (h : Tells V k) (g : Tells W k) : V = W :=
 toF_inj h.bd g.bd (fq_cancel (mul_y h.nz).1 (h.eq.trans g.eq.symm))
theorem tells9 : Tells 9 1 := by
 have e : baseP.mul 1 = baseP := by
  show zeroP.add baseP = baseP
  rw [add_comm', add_zero']
 refine ⟨⟨by decide, by decide⟩, by decide, ?_⟩
 rw [e]
 exact nine_base
theorem toF_cg {a b : Int} (h : Cg a b) : toF a = toF b := by
 rw [← toF_mod a, ← toF_mod b, h.emod]
theorem pow_up (z : Int) (n m : Nat) (h : m = n + 1) : toF z * toF (z ^ n) = toF (z ^ m) := by
 subst h
 rw [← toF_mul, Int.pow_succ, Int.mul_comm]
theorem pw_inv {z : Int} (h : toF z ≠ 0) : toF z * toF (pwm z (xbit 255 21) 255) = 1 := by
 rw [toF_cg (pwm_pow z (xbit 255 21) 255), ex255]
 have hv : 0 < (toF z).val := Nat.pos_of_ne_zero fun e => h (Fin.ext (by rw [e]; rfl))
 have hf := fermatN hv (toF z).isLt
 have e1 : toF z * toF (z ^ (2 ^ 255 - 21)) = toF (z ^ (2 ^ 255 - 20)) := pow_up z (2 ^ 255 - 21) (2 ^ 255 - 20) (by decide)
 rw [e1]
 refine fq_int ?_
 rw [toF_val]
 have hz : Cg z (((toF z).val : Nat) : Int) := by
  rw [toF_val]
  exact em z
 rw [(hz.pow _).emod, ← Int.natCast_pow, ← pN_P, ← Int.natCast_emod, show (2 ^ 255 - 20 : Nat) = pN - 1 by decide, hf]
 rfl
theorem q1a {l t u v : Fq} (h : l * v * t = 1) : l * u * t * v = u := by grind
theorem Tells.lad {V : Int} {m : Nat} (h : Tells V m) (K : Yb) (hk : ¬ oN ∣ m * nk K 255) : Tells (shV K V) (m * nk K 255) := by
 refine ⟨shV_bd K V, hk, ?_⟩
 obtain ⟨l, hl, e1, e2⟩ := (lad_tl K h.ne h.eq (mul_y h.nz).1 255).1
 rw [← mul_mul'] at e1 e2
 have hz : toF (rladF K V 255).z2 ≠ 0 := by
  rw [e2]
  exact fq_ne hl (mul_y hk).1
 have hi := pw_inv hz
 unfold shV
 rw [toF_mod, toF_mul, e1]
 rw [e2] at hi
 exact q1a hi
open Go.RowKit
theorem leb_size (N : Int) : (lebytes N).size = 32 := by
 unfold lebytes
 rw [bs_size]
 rfl
theorem val_leb {W : Int} (hW : 0 ≤ W ∧ W < Pm) : val (mkS (lebytes W)) % Pm = W := by rw [leb_rb hW]; exact mk_leb hW
theorem sS_ne {V : Int} (h : V ≠ 0) : sS V = lebytes V := by unfold sS; rw [if_neg h]
theorem sC_ne {V : Int} (h : V ≠ 0) : sC V = 0 := by unfold sC; rw [if_neg h]
open Go.RowKit
def bsF (f : NI) : ByteArray := bs ((List.range 32).map f)
theorem bsF_bt {f : NI} (hf : ∀ i, i < 32 → 0 ≤ f i ∧ f i < 256) {i : Nat} (hi : i < 32) : bt (bsF f) i = f i :=
 bt_bs _ _ _ (by simp [hi]) (hf i hi).1 (hf i hi).2
open Go.RowKit
theorem cl_bt (s : Yb) {i : Nat} (hi : i < 32) : bt (clS s) i = clF s i := bsF_bt (fun i _ => clF_bd s i) hi
theorem cl_low {x : Int} (h0 : 0 ≤ x) (h1 : x < 256) : bits .and .u8 x 248 % 8 = 0 ∧ bits .or .u8 (bits .and .u8 x 127) 64 / 64 % 2 = 1 := by
 obtain ⟨X, rfl⟩ := Int.eq_ofNat_of_zero_le h0
 have hX : X < 256 := by omega
 have h : ∀ n : Fin 256, bits .and .u8 ((n.val : Nat) : Int) 248 % 8 = 0 ∧ bits .or .u8 (bits .and .u8 ((n.val : Nat) : Int) 127) 64 / 64 % 2 = 1 := by decide +kernel
 exact h ⟨X, hX⟩
theorem cl_254 (s : Yb) : bit (clS s) 254 = 1 := by
 show bt (clS s) 31 / 2 ^ 6 % 2 = 1
 rw [cl_bt s (by omega), show clF s 31 = bits .or .u8 (bits .and .u8 (bt s 31) 127) 64 by simp [clF, upd]]
 exact (cl_low (bt_bd s 31).1 (bt_bd s 31).2).2
theorem cl_012 (s : Yb) : bit (clS s) 0 = 0 ∧ bit (clS s) 1 = 0 ∧ bit (clS s) 2 = 0 := by
 have h := (cl_low (bt_bd s 0).1 (bt_bd s 0).2).1
 have e : bt (clS s) 0 = bits .and .u8 (bt s 0) 248 := by
  rw [cl_bt s (by omega)]
  simp [clF, upd]
 refine ⟨?_, ?_, ?_⟩
 ·show bt (clS s) 0 / 2 ^ 0 % 2 = 0
  rw [e]
  simp only [Int.pow_zero]
  omega
 ·show bt (clS s) 0 / 2 ^ 1 % 2 = 0
  rw [e, show (2 : Int) ^ 1 = 2 by decide]
  omega
 ·show bt (clS s) 0 / 2 ^ 2 % 2 = 0
  rw [e, show (2 : Int) ^ 2 = 4 by decide]
  omega
theorem nk_lt (K : Yb) : ∀ k, nk K k < 2 ^ k
 | 0 => by
  show 0 < 2 ^ 0
  decide
 | k + 1 => by
  have ih := nk_lt K k
  show 2 * nk K k + (bit K (254 - k)).toNat < _
  rw [Nat.pow_succ]
  rcases bit_two K (254 - k) with h | h <;> rw [h]
  ·show 2 * nk K k + 0 < _
   omega
  ·show 2 * nk K k + 1 < _
   omega
theorem nk_ge (K : Yb) (h : bit K 254 = 1) : ∀ k, 2 ^ k ≤ nk K (k + 1)
 | 0 => by
  show 1 ≤ 2 * 0 + (bit K 254).toNat
  rw [h]
  decide
 | k + 1 => by
  have ih := nk_ge K h k
  show _ ≤ 2 * nk K (k + 1) + (bit K (254 - (k + 1))).toNat
  rw [Nat.pow_succ]
  omega
theorem cl_n (s : Yb) : nk (clS s) 255 = 8 * nk (clS s) 252 := by
 obtain ⟨h0, h1, h2⟩ := cl_012 s
 show 2 * (2 * (2 * nk (clS s) 252 + (bit (clS s) 2).toNat) + (bit (clS s) 1).toNat) + (bit (clS s) 0).toNat = _
 rw [h0, h1, h2]
 show 2 * (2 * (2 * nk (clS s) 252 + 0) + 0) + 0 = _
 omega
theorem cl_nd (s : Yb) : ¬ oN ∣ nk (clS s) 255 := by
 rw [cl_n]
 intro h
 rcases isO_mul h with h1 | h1
 ·revert h1
  decide
 ·have h2 := nk_lt (clS s) 252
  have h3 : 2 ^ 251 ≤ nk (clS s) 252 := nk_ge (clS s) (cl_254 s) 251
  have h6 : 0 < nk (clS s) 252 := Nat.lt_of_lt_of_le (by decide) h3
  have h4 : oN ≤ nk (clS s) 252 := Nat.le_of_dvd h6 h1
  have h5 : (2 : Nat) ^ 252 < oN := by decide
  exact absurd (Nat.lt_of_le_of_lt h4 h2) (Nat.lt_asymm h5)
theorem nd_mul {a b : Nat} (ha : ¬ oN ∣ a) (hb : ¬ oN ∣ b) : ¬ oN ∣ a * b := fun h => by
 rcases isO_mul h with h | h
 ·exact ha h
 ·exact hb h
theorem Tells.cl {V : Int} {m : Nat} (h : Tells V m) (s : Yb) : Tells (shV (clS s) V) (m * nk (clS s) 255) := h.lad _ (nd_mul h.nz (cl_nd s))
theorem Tells.swap {V : Int} {m : Nat} (h : Tells V m) (a b : Yb) : shV (clS a) (shV (clS b) V) = shV (clS b) (shV (clS a) V) := by
 have h1 := (h.cl b).cl a
 have h2 := (h.cl a).cl b
 rw [Nat.mul_assoc, Nat.mul_comm (nk (clS a) 255), ← Nat.mul_assoc] at h2
 exact h1.one h2
open Go.RowKit
theorem leb_z : lebytes 0 = z32S := by decide +kernel
theorem ba_inj {a b : Yb} (h : a.toList = b.toList) : a = b := by
 rw [ByteArray.toList_eq, ByteArray.toList_eq] at h
 cases a
 cases b
 simp at h
 rw [h]
theorem leb_nz {V : Int} (hb : 0 ≤ V ∧ V < Pm) (h : V ≠ 0) : ((lebytes V).toList == z32S.toList) = false := by
 rw [beq_eq_false_iff_ne]
 intro e
 have e2 := ba_inj e
 have h1 := val_leb hb
 rw [e2, v0] at h1
 exact h h1.symm
theorem mk32 (w : World) : (Instr.makeSlice 61 (.int .i64 32) (.int .i64 32)).run Tryz.prog w = .ok (.slice (some ⟨w.heap.size, 0, none⟩) 32 32) (w.alloc (.cells #[Value.int .u8 0, Value.int .u8 0, Value.int .u8 0, Value.int .u8 0, Value.int .u8 0, Value.int .u8 0, Value.int .u8 0, Value.int .u8 0, Value.int .u8 0, Value.int .u8 0, Value.int .u8 0, Value.int .u8 0, Value.int .u8 0, Value.int .u8 0, Value.int .u8 0, Value.int .u8 0, Value.int .u8 0, Value.int .u8 0, Value.int .u8 0, Value.int .u8 0, Value.int .u8 0, Value.int .u8 0, Value.int .u8 0, Value.int .u8 0, Value.int .u8 0, Value.int .u8 0, Value.int .u8 0, Value.int .u8 0, Value.int .u8 0, Value.int .u8 0, Value.int .u8 0, Value.int .u8 0] 5)) := by kernel_rfl
theorem cv32 (w : World) : (convert 61 9 (.slice (some ⟨w.heap.size, 0, none⟩) 32 32)).run Tryz.prog (w.alloc (.cells #[Value.int .u8 0, Value.int .u8 0, Value.int .u8 0, Value.int .u8 0, Value.int .u8 0, Value.int .u8 0, Value.int .u8 0, Value.int .u8 0, Value.int .u8 0, Value.int .u8 0, Value.int .u8 0, Value.int .u8 0, Value.int .u8 0, Value.int .u8 0, Value.int .u8 0, Value.int .u8 0, Value.int .u8 0, Value.int .u8 0, Value.int .u8 0, Value.int .u8 0, Value.int .u8 0, Value.int .u8 0, Value.int .u8 0, Value.int .u8 0, Value.int .u8 0, Value.int .u8 0, Value.int .u8 0, Value.int .u8 0, Value.int .u8 0, Value.int .u8 0, Value.int .u8 0, Value.int .u8 0] 5)) = .ok (.string z32S) (w.alloc (.cells #[Value.int .u8 0, Value.int .u8 0, Value.int .u8 0, Value.int .u8 0, Value.int .u8 0, Value.int .u8 0, Value.int .u8 0, Value.int .u8 0, Value.int .u8 0, Value.int .u8 0, Value.int .u8 0, Value.int .u8 0, Value.int .u8 0, Value.int .u8 0, Value.int .u8 0, Value.int .u8 0, Value.int .u8 0, Value.int .u8 0, Value.int .u8 0, Value.int .u8 0, Value.int .u8 0, Value.int .u8 0, Value.int .u8 0, Value.int .u8 0, Value.int .u8 0, Value.int .u8 0, Value.int .u8 0, Value.int .u8 0, Value.int .u8 0, Value.int .u8 0, Value.int .u8 0, Value.int .u8 0] 5)) := conv_bytes _ w.heap.size 5 (List.replicate 32 0) 32 32 (0, 0) (heap_alloc_new w _) rfl
theorem rpub_no (s : Yb) (w : World) (hs : s.size ≠ 32) : Cs 9 #[.string s] w (.tuple #[.string ⟨#[]⟩, .int .i64 2]) := by
 have n0 : ((s.size : Int) != 32) = true := by simp; omega
 go_enter Tryz.func9, Tryz.ntmps9
 go_wp2
 exact bodyPost_ret (v := .tuple #[.string ⟨#[]⟩, .int .i64 2]) (by simp [results, Tryz.results9, go_sem]) rfl ⟨rfl, Below.refl _ _⟩
theorem bc32 (w : World) : BC (w.alloc (.cells #[Value.int .u8 0, Value.int .u8 0, Value.int .u8 0, Value.int .u8 0, Value.int .u8 0, Value.int .u8 0, Value.int .u8 0, Value.int .u8 0, Value.int .u8 0, Value.int .u8 0, Value.int .u8 0, Value.int .u8 0, Value.int .u8 0, Value.int .u8 0, Value.int .u8 0, Value.int .u8 0, Value.int .u8 0, Value.int .u8 0, Value.int .u8 0, Value.int .u8 0, Value.int .u8 0, Value.int .u8 0, Value.int .u8 0, Value.int .u8 0, Value.int .u8 0, Value.int .u8 0, Value.int .u8 0, Value.int .u8 0, Value.int .u8 0, Value.int .u8 0, Value.int .u8 0, Value.int .u8 0] 5)) w.heap.size (fun _ => 0) 32 where
 lt := by simp
 c := fun i hi => by
  rw [cell_of_row _ _ _ _ _ _ (heap_alloc_new w _)]
  have h : ∀ j : Fin 32, (#[Value.int .u8 0, Value.int .u8 0, Value.int .u8 0, Value.int .u8 0, Value.int .u8 0, Value.int .u8 0, Value.int .u8 0, Value.int .u8 0, Value.int .u8 0, Value.int .u8 0, Value.int .u8 0, Value.int .u8 0, Value.int .u8 0, Value.int .u8 0, Value.int .u8 0, Value.int .u8 0, Value.int .u8 0, Value.int .u8 0, Value.int .u8 0, Value.int .u8 0, Value.int .u8 0, Value.int .u8 0, Value.int .u8 0, Value.int .u8 0, Value.int .u8 0, Value.int .u8 0, Value.int .u8 0, Value.int .u8 0, Value.int .u8 0, Value.int .u8 0, Value.int .u8 0, Value.int .u8 0] : Array Value)[j.val]? = some (.int .u8 0) := fun j => by
   rcases j with ⟨j, hj⟩
   have : j < 32 := hj
   rcases j with _|_|_|_|_|_|_|_|_|_|_|_|_|_|_|_|_|_|_|_|_|_|_|_|_|_|_|_|_|_|_|_|j
   all_goals first | rfl | omega
  exact h ⟨i, hi⟩
 fz := fun i hi => by
  unfold World.frozen?
  rw [heap_alloc_new w _]
  simp
theorem nine_bs : bs ((List.range 32).map (upd (fun _ => 0) 0 9)) = nineS := by decide +kernel
end Go.Proofs.YtffimigpbcilbaaGreatDoor.Mon
