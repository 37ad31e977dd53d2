/- Part 5 of the walks and facts. -/
import Derived.Test.YtiahdbibeleakaaGreatDoorCa4
import Derived.Deep.Cut
set_option maxHeartbeats 16000000
set_option maxRecDepth 100000
set_option linter.unusedSimpArgs false
set_option linter.unusedVariables false
namespace Go.Proofs.YtiahdbibeleakaaGreatDoor.Mon
open Go.RowKit
theorem neg_zero {a : NI} (h : eqw a (fun _ => 0) 0 16 = true) : arr 16 (d16 ((- S a 16) % Pm)) = arr 16 a := by
 have hz := (eqw_iff a (fun _ => 0) 16 0).1 h
 have e : S a 16 = 0 := by rw [S_congr (g := fun _ => 0) fun i hi => hz i (by omega) (by omega), S_zero]
 rw [e]
 refine arr_congr fun i hi => ?_
 rw [hz i (by omega) (by omega)]
 simp [d16]
theorem neg_some {a : NI} (ha : Dig a 16) (hlt : S a 16 < Pm) (h : eqw a (fun _ => 0) 0 16 = false) : arr 16 (d16 ((- S a 16) % Pm)) = arr 16 (minusF pF a) := by
 have hm : S (minusF pF a) 16 = Pm - S a 16 := by rw [minus_le pF_dig ha (by rw [pF_S]; omega), pF_S]
 have h0 := (S_bd ha).1
 have hne : S a 16 ≠ 0 := by
  intro e
  have hz : ∀ i, i < 16 → a i = 0 := fun i hi => S_inj (f := a) (g := fun _ => 0) ha (fun _ _ => ⟨Int.le_refl 0, (by decide : (0 : Int) < 65536)⟩) (by rw [e, S_zero]) i hi
  have := (eqw_iff a (fun _ => 0) 16 0).2 fun i _ hi => hz i (by omega)
  rw [this] at h
  cases h
 exact fin_eq (minusF_dig pF a 16) (by rw [hm]; exact ⟨1, by omega⟩) (by rw [hm]; omega)
theorem rneg_any (a : NI) (w : World) (ha : Dig a 16) (hlt : S a 16 < Pm) : Cs 87 #[.agg (arr 16 a)] w (.agg (arr 16 (d16 ((- S a 16) % Pm)))) := by
 have hgu : Tryz.prog.eqGuardType Tryz.prog.depth 108 = false := by kernel_rfl
 have he : ∀ w, (binOp .eql 108 (.agg (arr 16 a)) (.agg #[Value.int .u64 0, Value.int .u64 0, Value.int .u64 0, Value.int .u64 0, Value.int .u64 0, Value.int .u64 0, Value.int .u64 0, Value.int .u64 0, Value.int .u64 0, Value.int .u64 0, Value.int .u64 0, Value.int .u64 0, Value.int .u64 0, Value.int .u64 0, Value.int .u64 0, Value.int .u64 0])).run Tryz.prog w = .ok (.bool (eqw a (fun _ => 0) 0 16)) w := fun w => run_eql_words 108 16 a (fun _ => 0) w Tryz.underlying108
 have R1 : Row ((w.alloc (.cells (arr 16 a) 108)).alloc (.cells #[Value.int .u64 0, Value.int .u64 0, Value.int .u64 0, Value.int .u64 0, Value.int .u64 0, Value.int .u64 0, Value.int .u64 0, Value.int .u64 0, Value.int .u64 0, Value.int .u64 0, Value.int .u64 0, Value.int .u64 0, Value.int .u64 0, Value.int .u64 0, Value.int .u64 0, Value.int .u64 0] 108)) w.heap.size 108 16 a := (Row.new w 108 16 a).alloc _
 have R3 : Row ((w.alloc (.cells (arr 16 a) 108)).alloc (.cells #[Value.int .u64 0, Value.int .u64 0, Value.int .u64 0, Value.int .u64 0, Value.int .u64 0, Value.int .u64 0, Value.int .u64 0, Value.int .u64 0, Value.int .u64 0, Value.int .u64 0, Value.int .u64 0, Value.int .u64 0, Value.int .u64 0, Value.int .u64 0, Value.int .u64 0, Value.int .u64 0] 108)) (w.heap.size + 1) 108 16 (fun _ => 0) := Row.new' _ 108 16 (fun _ => 0) (by simp)
 have O : Below w.heap.size w ((w.alloc (.cells (arr 16 a) 108)).alloc (.cells #[Value.int .u64 0, Value.int .u64 0, Value.int .u64 0, Value.int .u64 0, Value.int .u64 0, Value.int .u64 0, Value.int .u64 0, Value.int .u64 0, Value.int .u64 0, Value.int .u64 0, Value.int .u64 0, Value.int .u64 0, Value.int .u64 0, Value.int .u64 0, Value.int .u64 0, Value.int .u64 0] 108)) := ((Below.refl _ _).alloc (Nat.le_refl _) _).alloc (by simp) _
 have H1 := hide R1
 have H3 := hide R3
 have H4 := hide O
 clear R1 R3 O
 cases hz : eqw a (fun _ => 0) 0 16
 ·rw [hz] at he
  have HE := hide (neg_some ha hlt hz)
  clear hz
  go_enter Tryz.func87, Tryz.ntmps87
  go_wp2_with (refine wpList_load_row rfl 108 _ rfl w.heap.size rfl 108 (arr 16 a) (0, 0) _ H1.out Tryz.underlying108 rfl (info108 _) ?_)
  try rw [show ∀ (a : Act) (v : Value), a.put none v = a from fun _ _ => rfl]
  have R1 := H1.out
  have R3 := H3.out
  have O := H4.out
  clear H1 H3 H4
  generalize (w.alloc (.cells (arr 16 a) 108)).alloc (.cells #[Value.int .u64 0, Value.int .u64 0, Value.int .u64 0, Value.int .u64 0, Value.int .u64 0, Value.int .u64 0, Value.int .u64 0, Value.int .u64 0, Value.int .u64 0, Value.int .u64 0, Value.int .u64 0, Value.int .u64 0, Value.int .u64 0, Value.int .u64 0, Value.int .u64 0, Value.int .u64 0] 108) = W at *
  have hne := KW.some W
  have hg3 : ∀ w', (∃ s : KW W, w' = s.w) → w'.heap[w.heap.size]? = some (.cells (arr 16 a) 108 (0, 0)) := by
   rintro _ ⟨s, rfl⟩
   exact R1.keep s.keep
  have HG := hide hg3
  clear hg3 R1 he hgu
  refine wp_region_keep_tail 3 (by kernel_rfl) (by kernel_rfl) ?_
  simp only [List.take_succ_cons, List.take_zero, List.drop_succ_cons, List.drop_zero]
  go_big_quiet_step ((exact keep_of (prime_any _)))
  go_big_quiet_want
  refine quiet_load_row 108 _ rfl w.heap.size rfl 108 (arr 16 a) (0, 0) _ HG.out Tryz.underlying108 rfl (info108 _) ?_
  go_simp
  go_big_quiet_on
  go_big_quiet_step ((exact keep_of (minus_any pF a _ pF_dig ha)))
  refine wpQuiet_nil ?_
  intro s
  replace R3 := R3.keep s.keep
  replace O := O.trans (s.keep.mono O.size)
  generalize s.w = W8 at R3 O ⊢
  have RR := hide (R3.setAll (minusF pF a))
  have OO := hide (below_setCells (g := w.heap.size + 1) (by omega) (arr 16 (minusF pF a)).toList 0 O)
  clear HG hne
  go_wp2_with (refine wpList_store_mid rfl 108 _ _ rfl (w.heap.size + 1) 0 (arr 16 (minusF pF a)) rfl rfl (by rw [arr_size]; exact R3.there) (info108 _) (arr_one _ _) ?_)
  exact bodyPost_ret (v := .agg (arr 16 (minusF pF a))) (results_cell_row Tryz.results87 _ _ (w.heap.size + 1) 108 (arr 16 (minusF pF a)) (0, 0) _ rfl RR.out Tryz.underlying108 rfl (info108 _)) rfl ⟨by rw [HE.out], OO.out⟩
 ·rw [hz] at he
  have HE := hide (neg_zero hz)
  clear hz
  have RR := hide (H3.out.setAll a)
  have OO := hide (below_setCells (g := w.heap.size + 1) (by omega) (arr 16 a).toList 0 H4.out)
  go_enter Tryz.func87, Tryz.ntmps87
  go_wp2_with (first | (refine wpList_load_row rfl 108 _ rfl w.heap.size rfl 108 (arr 16 a) (0, 0) _ H1.out Tryz.underlying108 rfl (info108 _) ?_) | (refine wpList_store_mid rfl 108 _ _ rfl (w.heap.size + 1) 0 (arr 16 a) rfl rfl (by rw [arr_size]; exact H3.out.there) (info108 _) (arr_one _ _) ?_))
  exact bodyPost_ret (v := .agg (arr 16 a)) (results_cell_row Tryz.results87 _ _ (w.heap.size + 1) 108 (arr 16 a) (0, 0) _ rfl RR.out Tryz.underlying108 rfl (info108 _)) rfl ⟨by rw [HE.out], OO.out⟩
theorem sub_val {a b : NI} : (S a 16 + S (d16 ((- S b 16) % Pm)) 16) % Pm = (S a 16 - S b 16) % Pm := by
 have h0 : 0 ≤ (- S b 16) % Pm := Int.emod_nonneg _ (by decide)
 have h1 : (- S b 16) % Pm < Pm := Int.emod_lt_of_pos _ (by decide)
 have hP : Pm < 65536 ^ 16 := by decide
 rw [d16_S _ h0, Int.emod_eq_of_lt h0 (by omega)]
 exact ((Cg.refl (S a 16)).add (cg_emod (- S b 16))).emod
theorem rsub_any (a b : NI) (w : World) (ha : Dig a 16) (hb : Dig b 16) (hlt : S b 16 < Pm) : Cs 59 #[.agg (arr 16 a), .agg (arr 16 b)] w (.agg (arr 16 (d16 ((S a 16 - S b 16) % Pm)))) := by
 have hcall : ∀ w, Cs 57 #[.agg (arr 16 a), .agg (arr 16 (d16 ((- S b 16) % Pm)))] w (.agg (arr 16 (d16 ((S a 16 - S b 16) % Pm)))) := fun w => by
  have := radd_any a (d16 ((- S b 16) % Pm)) w ha (d16_dig _ 16)
  rwa [sub_val] at this
 have HC := hide hcall
 clear hcall
 have R1 : Row (((w.alloc (.cells (arr 16 a) 108)).alloc (.cells (arr 16 b) 108)).alloc (.cells #[Value.int .u64 0, Value.int .u64 0, Value.int .u64 0, Value.int .u64 0, Value.int .u64 0, Value.int .u64 0, Value.int .u64 0, Value.int .u64 0, Value.int .u64 0, Value.int .u64 0, Value.int .u64 0, Value.int .u64 0, Value.int .u64 0, Value.int .u64 0, Value.int .u64 0, Value.int .u64 0] 108)) w.heap.size 108 16 a := ((Row.new w 108 16 a).alloc _).alloc _
 have R2 : Row (((w.alloc (.cells (arr 16 a) 108)).alloc (.cells (arr 16 b) 108)).alloc (.cells #[Value.int .u64 0, Value.int .u64 0, Value.int .u64 0, Value.int .u64 0, Value.int .u64 0, Value.int .u64 0, Value.int .u64 0, Value.int .u64 0, Value.int .u64 0, Value.int .u64 0, Value.int .u64 0, Value.int .u64 0, Value.int .u64 0, Value.int .u64 0, Value.int .u64 0, Value.int .u64 0] 108)) (w.heap.size + 1) 108 16 b := (Row.new' _ 108 16 _ (by simp)).alloc _
 have R3 : Row (((w.alloc (.cells (arr 16 a) 108)).alloc (.cells (arr 16 b) 108)).alloc (.cells #[Value.int .u64 0, Value.int .u64 0, Value.int .u64 0, Value.int .u64 0, Value.int .u64 0, Value.int .u64 0, Value.int .u64 0, Value.int .u64 0, Value.int .u64 0, Value.int .u64 0, Value.int .u64 0, Value.int .u64 0, Value.int .u64 0, Value.int .u64 0, Value.int .u64 0, Value.int .u64 0] 108)) (w.heap.size + 1 + 1) 108 16 (fun _ => 0) := Row.new' _ 108 16 (fun _ => 0) (by simp)
 have O : Below w.heap.size w (((w.alloc (.cells (arr 16 a) 108)).alloc (.cells (arr 16 b) 108)).alloc (.cells #[Value.int .u64 0, Value.int .u64 0, Value.int .u64 0, Value.int .u64 0, Value.int .u64 0, Value.int .u64 0, Value.int .u64 0, Value.int .u64 0, Value.int .u64 0, Value.int .u64 0, Value.int .u64 0, Value.int .u64 0, Value.int .u64 0, Value.int .u64 0, Value.int .u64 0, Value.int .u64 0] 108)) := (((Below.refl _ _).alloc (Nat.le_refl _) _).alloc (by simp) _).alloc (by simp; omega) _
 go_enter Tryz.func59, Tryz.ntmps59
 go_wp2_with fail
 generalize ((w.alloc (.cells (arr 16 a) 108)).alloc (.cells (arr 16 b) 108)).alloc (.cells #[Value.int .u64 0, Value.int .u64 0, Value.int .u64 0, Value.int .u64 0, Value.int .u64 0, Value.int .u64 0, Value.int .u64 0, Value.int .u64 0, Value.int .u64 0, Value.int .u64 0, Value.int .u64 0, Value.int .u64 0, Value.int .u64 0, Value.int .u64 0, Value.int .u64 0, Value.int .u64 0] 108) = W at *
 have hne := KW.some W
 have hg1 : ∀ w', (∃ s : KW W, w' = s.w) → w'.heap[w.heap.size]? = some (.cells (arr 16 a) 108 (0, 0)) := by
  rintro _ ⟨s, rfl⟩
  exact R1.keep s.keep
 have hg2 : ∀ w', (∃ s : KW W, w' = s.w) → w'.heap[w.heap.size + 1]? = some (.cells (arr 16 b) 108 (0, 0)) := by
  rintro _ ⟨s, rfl⟩
  exact R2.keep s.keep
 have HG1 := hide hg1
 have HG2 := hide hg2
 clear hg1 hg2 R1 R2
 refine wp_region_keep_tail 4 (by kernel_rfl) (by kernel_rfl) ?_
 simp only [List.take_succ_cons, List.take_zero, List.drop_succ_cons, List.drop_zero]
 go_big_quiet_want
 refine quiet_load_row 108 _ rfl w.heap.size rfl 108 (arr 16 a) (0, 0) _ HG1.out Tryz.underlying108 rfl (info108 _) ?_
 go_simp
 go_big_quiet_on
 go_big_quiet_want
 refine quiet_load_row 108 _ rfl (w.heap.size + 1) rfl 108 (arr 16 b) (0, 0) _ HG2.out Tryz.underlying108 rfl (info108 _) ?_
 go_simp
 go_big_quiet_on
 go_big_quiet_step ((exact keep_of (rneg_any b _ hb hlt)))
 go_big_quiet_step ((exact keep_of (HC.out _)))
 refine wpQuiet_nil ?_
 intro s
 replace R3 := R3.keep s.keep
 replace O := O.trans (s.keep.mono O.size)
 generalize s.w = W8 at R3 O ⊢
 have RR := hide (R3.setAll (d16 ((S a 16 - S b 16) % Pm)))
 have OO := hide (below_setCells (g := w.heap.size + 1 + 1) (by omega) (arr 16 (d16 ((S a 16 - S b 16) % Pm))).toList 0 O)
 clear HG1 HG2 hne HC
 go_wp2_with (refine wpList_store_mid rfl 108 _ _ rfl (w.heap.size + 1 + 1) 0 (arr 16 (d16 ((S a 16 - S b 16) % Pm))) rfl rfl (by rw [arr_size]; exact R3.there) (info108 _) (arr_one _ _) ?_)
 exact bodyPost_ret (v := .agg (arr 16 (d16 ((S a 16 - S b 16) % Pm)))) (results_cell_row Tryz.results59 _ _ (w.heap.size + 1 + 1) 108 (arr 16 (d16 ((S a 16 - S b 16) % Pm))) (0, 0) _ rfl RR.out Tryz.underlying108 rfl (info108 _)) rfl ⟨rfl, OO.out⟩
open Go.RowKit
def E5.f (x : E5) : Nat → Int := fun i => [x.a, x.b, x.c, x.d, x.e].getD i 0
def pj (x z : NI) : Nat → Int := fun i => if i < 5 then x i else z (i - 5)
section
variable {P : Program} {ops : Array Oper} {W : World} {Q : Act → Prop}
end
theorem results_two {P : Program} {fn : Func} {p q : Tmp} {ty tz : TypeId} (h : fn.results = #[.cell p ty, .cell q tz]) (tmps : Array Value) (w : World) (g k : Nat) (t t' : TypeId) (cs cs' : Array Value) (fr fr' : Nat × Nat) (d d' : TypeDesc)
  (hp : tmps.getD p undef = .pointer (some ⟨g, 0, none⟩)) (hq : tmps.getD q undef = .pointer (some ⟨k, 0, none⟩)) (hg : w.heap[g]? = some (.cells cs t fr)) (hk : w.heap[k]? = some (.cells cs' t' fr'))
  (hu : P.underlying ty = some d) (hd : (match d with | .struct _ | .array _ _ => true | _ => false) = true) (hi : (P.info? ty).map (·.size) = some cs.size)
  (hu' : P.underlying tz = some d') (hd' : (match d' with | .struct _ | .array _ _ => true | _ => false) = true) (hi' : (P.info? tz).map (·.size) = some cs'.size) :
  (results fn tmps).run P w = .ok (.tuple #[.agg cs, .agg cs']) w := by
 have hp' : tmps[p]?.getD undef = .pointer (some ⟨g, 0, none⟩) := by simpa using hp
 have hq' : tmps[q]?.getD undef = .pointer (some ⟨k, 0, none⟩) := by simpa using hq
 simp [results, h, hp', hq', asAddr, run_loadVar_row w g t ty cs fr d hg hu hd hi, run_loadVar_row w k t' tz cs' fr' d' hk hu' hd' hi']
open Go.RowKit
structure St where
 dx : E5
 dz : E5
 px : E5
 pz : E5
def stepF (ax az bx bz x : E5) : St :=
 let sm := addF ax az
 let df := subF ax az
 let aa := mulF sm sm
 let bb := mulF df df
 let ee := subF aa bb
 let da := mulF (subF bx bz) sm
 let cb := mulF (addF bx bz) df
 let ps := addF da cb
 let ms := subF da cb
 ⟨mulF aa bb, mulF ee (addF aa (mulF (smallF 121665) ee)), mulF ps ps, mulF x (mulF ms ms)⟩
structure St.Ok (s : St) : Prop where
 dx : s.dx.Ok
 dz : s.dz.Ok
 px : s.px.Ok
 pz : s.pz.Ok
theorem stepF_ok {ax az bx bz x : E5} (h1 : ax.Ok) (h2 : az.Ok) (h3 : bx.Ok) (h4 : bz.Ok) (h5 : x.Ok) : (stepF ax az bx bz x).Ok := by
 have k1 := addF_ok h1 h2
 have k2 := subF_ok h1 h2
 have k3 := mulF_ok k1 k1
 have k4 := mulF_ok k2 k2
 have k5 := subF_ok k3 k4
 have k6 := mulF_ok (subF_ok h3 h4) k1
 have k7 := mulF_ok (addF_ok h3 h4) k2
 have k8 := addF_ok k6 k7
 have k9 := subF_ok k6 k7
 have k0 := smallF_ok (n := 121665) (by decide) (by decide)
 exact ⟨mulF_ok k3 k4, mulF_ok k5 (addF_ok k3 (mulF_ok k0 k5)), mulF_ok k8 k8, mulF_ok h5 (mulF_ok k9 k9)⟩
theorem and1u {x : Int} (h0 : 0 ≤ x) (h1 : x < 256) : bits .and .u8 x 1 = x % 2 := by
 obtain ⟨X, rfl⟩ := Int.eq_ofNat_of_zero_le h0
 have hX : X < 256 := by omega
 have h : ∀ n : Fin 256, bits .and .u8 ((n.val : Nat) : Int) 1 = ((n.val : Nat) : Int) % 2 := by decide +kernel
 exact h ⟨X, hX⟩
def bit (s : Yb) (i : Nat) : Int := bt s (i / 8) / 2 ^ (i % 8) % 2
theorem bit_two (s : Yb) (i : Nat) : bit s i = 0 ∨ bit s i = 1 := by unfold bit; omega
theorem bitAt_any (s : Yb) (p : Nat) (w : World) (hs : p < 8 * s.size) (hp : p < 255) : Cs 115 #[.string s, .int .i64 (p : Int)] w (.int .i64 (bit s p)) := by
 have a1 : (0 : Int) ≤ (p : Int) / 8 := by omega
 have a2 : (p : Int) / 8 < (s.size : Int) := by omega
 have a4 : p / 8 < s.size := by omega
 have a5 := bt_at s (p / 8) a4
 have a6 := bt_bd s (p / 8)
 have HB := hide (show bit s p = bt s (p / 8) / 2 ^ (p % 8) % 2 from rfl)
 rcases (show p % 8 = 0 ∨ p % 8 = 1 ∨ p % 8 = 2 ∨ p % 8 = 3 ∨ p % 8 = 4 ∨ p % 8 = 5 ∨ p % 8 = 6 ∨ p % 8 = 7 by omega) with h8 | h8 | h8 | h8 | h8 | h8 | h8 | h8
 ·have a3 : (p : Int) % 8 = 0 := by omega
  have eb : bits BinOp.and IntKind.u8 (bt s (p / 8)) 1 = bt s (p / 8) % 2 := and1u (by omega) (by omega)
  have HV := hide (show bit s p = bt s (p / 8) % 2 by rw [HB.out, h8]; simp)
  clear h8 HB
  go_enter Tryz.func115, Tryz.ntmps115
  go_wp2
  go_ret
  exact ⟨by rw [HV.out]; rfl, Below.refl _ _⟩
 ·have a3 : (p : Int) % 8 = 1 := by omega
  have eb : bits BinOp.and IntKind.u8 (bt s (p / 8) / 2) 1 = bt s (p / 8) / 2 % 2 := and1u (by omega) (by omega)
  have HV := hide (show bit s p = bt s (p / 8) / 2 % 2 by rw [HB.out, h8]; simp)
  clear h8 HB
  go_enter Tryz.func115, Tryz.ntmps115
  go_wp2
  go_ret
  exact ⟨by rw [HV.out]; rfl, Below.refl _ _⟩
 ·have a3 : (p : Int) % 8 = 2 := by omega
  have eb : bits BinOp.and IntKind.u8 (bt s (p / 8) / 4) 1 = bt s (p / 8) / 4 % 2 := and1u (by omega) (by omega)
  have HV := hide (show bit s p = bt s (p / 8) / 4 % 2 by rw [HB.out, h8]; simp)
  clear h8 HB
  go_enter Tryz.func115, Tryz.ntmps115
  go_wp2
  go_ret
  exact ⟨by rw [HV.out]; rfl, Below.refl _ _⟩
 ·have a3 : (p : Int) % 8 = 3 := by omega
  have eb : bits BinOp.and IntKind.u8 (bt s (p / 8) / 8) 1 = bt s (p / 8) / 8 % 2 := and1u (by omega) (by omega)
  have HV := hide (show bit s p = bt s (p / 8) / 8 % 2 by rw [HB.out, h8]; simp)
  clear h8 HB
  go_enter Tryz.func115, Tryz.ntmps115
  go_wp2
  go_ret
  exact ⟨by rw [HV.out]; rfl, Below.refl _ _⟩
 ·have a3 : (p : Int) % 8 = 4 := by omega
  have eb : bits BinOp.and IntKind.u8 (bt s (p / 8) / 16) 1 = bt s (p / 8) / 16 % 2 := and1u (by omega) (by omega)
  have HV := hide (show bit s p = bt s (p / 8) / 16 % 2 by rw [HB.out, h8]; simp)
  clear h8 HB
  go_enter Tryz.func115, Tryz.ntmps115
  go_wp2
  go_ret
  exact ⟨by rw [HV.out]; rfl, Below.refl _ _⟩
 ·have a3 : (p : Int) % 8 = 5 := by omega
  have eb : bits BinOp.and IntKind.u8 (bt s (p / 8) / 32) 1 = bt s (p / 8) / 32 % 2 := and1u (by omega) (by omega)
  have HV := hide (show bit s p = bt s (p / 8) / 32 % 2 by rw [HB.out, h8]; simp)
  clear h8 HB
  go_enter Tryz.func115, Tryz.ntmps115
  go_wp2
  go_ret
  exact ⟨by rw [HV.out]; rfl, Below.refl _ _⟩
 ·have a3 : (p : Int) % 8 = 6 := by omega
  have eb : bits BinOp.and IntKind.u8 (bt s (p / 8) / 64) 1 = bt s (p / 8) / 64 % 2 := and1u (by omega) (by omega)
  have HV := hide (show bit s p = bt s (p / 8) / 64 % 2 by rw [HB.out, h8]; simp)
  clear h8 HB
  go_enter Tryz.func115, Tryz.ntmps115
  go_wp2
  go_ret
  exact ⟨by rw [HV.out]; rfl, Below.refl _ _⟩
 ·have a3 : (p : Int) % 8 = 7 := by omega
  have eb : bits BinOp.and IntKind.u8 (bt s (p / 8) / 128) 1 = bt s (p / 8) / 128 % 2 := and1u (by omega) (by omega)
  have HV := hide (show bit s p = bt s (p / 8) / 128 % 2 by rw [HB.out, h8]; simp)
  clear h8 HB
  go_enter Tryz.func115, Tryz.ntmps115
  go_wp2
  go_ret
  exact ⟨by rw [HV.out]; rfl, Below.refl _ _⟩
open Go.RowKit
section
variable {P : Program} {ops : Array Oper} {md : Region.Mode} {Q : Exit → Act → World → Prop}
end
def ladF (s : Yb) (x : E5) : Nat → St
 | 0 => ⟨smallF 1, zeroE, x, smallF 1⟩
 | k + 1 => if bit s (254 - k) = 0 then stepF (ladF s x k).dx (ladF s x k).dz (ladF s x k).px (ladF s x k).pz x
  else ⟨(stepF (ladF s x k).px (ladF s x k).pz (ladF s x k).dx (ladF s x k).dz x).px, (stepF (ladF s x k).px (ladF s x k).pz (ladF s x k).dx (ladF s x k).dz x).pz, (stepF (ladF s x k).px (ladF s x k).pz (ladF s x k).dx (ladF s x k).dz x).dx, (stepF (ladF s x k).px (ladF s x k).pz (ladF s x k).dx (ladF s x k).dz x).dz⟩
theorem ladF_ok (s : Yb) {x : E5} (hx : x.Ok) : ∀ k, (ladF s x k).Ok
 | 0 => ⟨smallF_ok (by decide) (by decide), zeroE_ok, hx, smallF_ok (by decide) (by decide)⟩
 | k + 1 => by
  have ih := ladF_ok s hx k
  unfold ladF
  by_cases h : bit s (254 - k) = 0
  ·rw [if_pos h]
   exact stepF_ok ih.dx ih.dz ih.px ih.pz hx
  ·rw [if_neg h]
   have := stepF_ok ih.px ih.pz ih.dx ih.dz hx
   exact ⟨this.px, this.pz, this.dx, this.dz⟩
def qj (p q : NI) : Nat → Int := fun i => if i < 10 then p i else q (i - 10)
open Go.RowKit
theorem bs_size (l : List Int) : (bs l).size = l.length := by simp [bs, ByteArray.size]
theorem bt_bs (l : List Int) (i : Nat) (x : Int) (hl : l[i]? = some x) (h0 : 0 ≤ x) (h1 : x < 256) : bt (bs l) i = x := by
 unfold bt bs
 simp only [List.getElem?_toArray, List.getElem?_map, hl, Option.map_some, Option.getD_some]
 simp only [UInt8.toNat_ofNat']
 omega
structure BC (W : World) (g : Nat) (f : NI) (n : Nat) : Prop where
 lt : g < W.heap.size
 c : ∀ i, i < n → W.cell? ⟨g, i, none⟩ = some (.int .u8 (f i))
 fz : ∀ i, i < n → W.frozen? ⟨g, i, none⟩ = false
theorem heap_setCell_size (W : World) (a : Addr) (v : Value) : (W.setCell a v).heap.size = W.heap.size := by
 simp
theorem BC.set {W : World} {g n : Nat} {f : NI} (h : BC W g f n) {k : Nat} (hk : k < n) (v : Int) : BC (W.setCell ⟨g, k, none⟩ (.int .u8 v)) g (upd f k v) n where
 lt := by rw [heap_setCell_size]; exact h.lt
 c := fun i hi => by
  by_cases e : i = k
  ·subst e
   rw [World.cell?_setCell_same _ _ _ (h.c i hk)]
   simp [upd]
  ·rw [World.cell?_setCell_other _ _ _ _ (by simp <;> omega), h.c i hi]
   simp [upd, e]
 fz := fun i hi => by
  rw [World.frozen?_setCell]
  exact h.fz i hi
theorem row_frozen (w : World) (g j : Nat) (cs : Array Value) (t : TypeId) (hg : w.heap[g]? = some (.cells cs t (cs.size, cs.size + 1))) (hj : j < cs.size) : w.frozen? ⟨g, j, none⟩ = false := by
 unfold World.frozen?
 rw [hg]
 simp
 omega
theorem conv_str (W : World) (s : Yb) : ∃ (cap : Nat) (W1 : World), (convert 9 44 (.string s)).run Tryz.prog W = .ok (.slice (some ⟨W.heap.size, 0, none⟩) s.size cap) W1 ∧ BC W1 W.heap.size (bt s) s.size ∧ Below W.heap.size W W1 := by
 have h := run_bytes_of_string (P := Tryz.prog) W 9 44 5 s Tryz.underlying9 Tryz.underlying44 Tryz.underlying5
 generalize grownCap W s.size 0 5 = cap at h
 refine ⟨cap, _, h, ?_, ((Below.refl _ _).drew).alloc (Nat.le_refl _) _⟩
 have hg : (W.drew.alloc (.cells (bytesRow s cap) 5 ((bytesRow s cap).size, (bytesRow s cap).size + 1))).heap[W.heap.size]? = some (.cells (bytesRow s cap) 5 ((bytesRow s cap).size, (bytesRow s cap).size + 1)) := heap_alloc_new W.drew _
 have hsz : s.size ≤ (bytesRow s cap).size := by
  simp [bytesRow]
 refine ⟨by simp, fun i hi => ?_, fun i hi => row_frozen _ _ _ _ _ hg (by omega)⟩
 rw [cell_of_row _ _ _ _ _ _ hg]
 have hi' : i < s.data.size := hi
 unfold bytesRow bt
 rw [Array.getElem?_append_left (by simpa using hi'), Array.getElem?_map, Array.getElem?_eq_getElem hi']
 rfl
theorem conv_back {W : World} {g n : Nat} {f : NI} (h : BC W g f n) (cap : Nat) (hf : ∀ i, i < n → 0 ≤ f i ∧ f i < 256) :
  (convert 44 9 (.slice (some ⟨g, 0, none⟩) n cap)).run Tryz.prog W = .ok (.string (bs ((List.range n).map f))) W := by
 have hl : ((List.range n).map fun i => UInt8.ofNat (f i).toNat).length = n := by simp
 have h2 := run_convert_bytes_back (P := Tryz.prog) W 44 9 5 ⟨g, 0, none⟩ cap ((List.range n).map fun i => UInt8.ofNat (f i).toNat) Tryz.underlying44 Tryz.underlying5 Tryz.underlying9 (fun j hj => by
  rw [hl] at hj
  have hadd : (⟨g, 0, none⟩ : Addr).add j = ⟨g, j, none⟩ := by unfold Addr.add; split <;> simp_all
  rw [hadd, h.c j hj]
  have := hf j hj
  simp
  omega)
 rw [hl] at h2
 rw [h2]
 unfold bs
 congr 3
 simp [List.map_map]
theorem and_bd {x : Int} (h0 : 0 ≤ x) (h1 : x < 256) : 0 ≤ bits .and .u8 x 248 ∧ bits .and .u8 x 248 < 256 := by
 obtain ⟨X, rfl⟩ := Int.eq_ofNat_of_zero_le h0
 have hX : X < 256 := by omega
 have h : ∀ n : Fin 256, 0 ≤ bits .and .u8 ((n.val : Nat) : Int) 248 ∧ bits .and .u8 ((n.val : Nat) : Int) 248 < 256 := by decide +kernel
 exact h ⟨X, hX⟩
theorem or_bd {x : Int} (h0 : 0 ≤ x) (h1 : x < 256) : 0 ≤ bits .or .u8 (bits .and .u8 x 127) 64 ∧ bits .or .u8 (bits .and .u8 x 127) 64 < 256 := by
 obtain ⟨X, rfl⟩ := Int.eq_ofNat_of_zero_le h0
 have hX : X < 256 := by omega
 have h : ∀ n : Fin 256, 0 ≤ bits .or .u8 (bits .and .u8 ((n.val : Nat) : Int) 127) 64 ∧ bits .or .u8 (bits .and .u8 ((n.val : Nat) : Int) 127) 64 < 256 := by decide +kernel
 exact h ⟨X, hX⟩
def clF (s : Yb) : Nat → Int := upd (upd (bt s) 0 (bits .and .u8 (bt s 0) 248)) 31 (bits .or .u8 (bits .and .u8 (bt s 31) 127) 64)
def clS (s : Yb) : ByteArray := bs ((List.range 32).map (clF s))
theorem clF_bd (s : Yb) (i : Nat) : 0 ≤ clF s i ∧ clF s i < 256 := by
 unfold clF upd
 by_cases h1 : i = 31
 ·rw [if_pos h1]
  exact or_bd (bt_bd s 31).1 (bt_bd s 31).2
 ·rw [if_neg h1]
  by_cases h2 : i = 0
  ·rw [if_pos h2]
   exact and_bd (bt_bd s 0).1 (bt_bd s 0).2
  ·rw [if_neg h2]
   exact bt_bd s i
theorem clS_size (s : Yb) : (clS s).size = 32 := by unfold clS; rw [bs_size]; simp
theorem clamp_yes (s : Yb) (w : World) (hs : s.size = 32) : Cs 91 #[.string s] w (.tuple #[.string (clS s), .int .i64 0]) := by
 have n0 : ((s.size : Int) != 32) = false := by simp [hs]
 obtain ⟨cap, W1, hcv, B, hb⟩ := conv_str w s
 rw [hs] at B
 have c0 := B.c 0 (by omega)
 have c31 := B.c 31 (by omega)
 have f0 := B.fz 0 (by omega)
 have f31 := B.fz 31 (by omega)
 have gl := B.lt
 have B2 := (B.set (k := 0) (by omega) (bits .and .u8 (bt s 0) 248)).set (k := 31) (by omega) (bits .or .u8 (bits .and .u8 (bt s 31) 127) 64)
 have hbk := conv_back (f := clF s) B2 cap (fun i _ => clF_bd s i)
 rw [show bs ((List.range 32).map (clF s)) = clS s from rfl] at hbk
 have OO := hide ((hb.setCell (p := ⟨w.heap.size, 0, none⟩) (Nat.le_refl _) (.int .u8 (bits .and .u8 (bt s 0) 248))).setCell (p := ⟨w.heap.size, 31, none⟩) (Nat.le_refl _) (.int .u8 (bits .or .u8 (bits .and .u8 (bt s 31) 127) 64)))
 clear B2 B hb
 generalize clS s = C at *
 go_enter Tryz.func91, Tryz.ntmps91
 go_wp2
 exact bodyPost_ret (v := .tuple #[.string C, .int .i64 0]) (by simp [results, Tryz.results91, go_sem]) rfl ⟨rfl, OO.out⟩
theorem rclamp_yes (s : Yb) (w : World) (hs : s.size = 32) : Cs 54 #[.string s] w (.string (clS s)) := by
 obtain ⟨cap, W1, hcv, B, hb⟩ := conv_str w s
 rw [hs] at B
 have c0 := B.c 0 (by omega)
 have c31 := B.c 31 (by omega)
 have f0 := B.fz 0 (by omega)
 have f31 := B.fz 31 (by omega)
 have gl := B.lt
 have B2 := (B.set (k := 0) (by omega) (bits .and .u8 (bt s 0) 248)).set (k := 31) (by omega) (bits .or .u8 (bits .and .u8 (bt s 31) 127) 64)
 have hbk := conv_back (f := clF s) B2 cap (fun i _ => clF_bd s i)
 rw [show bs ((List.range 32).map (clF s)) = clS s from rfl] at hbk
 have OO := hide ((hb.setCell (p := ⟨w.heap.size, 0, none⟩) (Nat.le_refl _) (.int .u8 (bits .and .u8 (bt s 0) 248))).setCell (p := ⟨w.heap.size, 31, none⟩) (Nat.le_refl _) (.int .u8 (bits .or .u8 (bits .and .u8 (bt s 31) 127) 64)))
 clear B2 B hb
 generalize clS s = C at *
 go_enter Tryz.func54, Tryz.ntmps54
 go_wp2
 go_ret
 exact ⟨rfl, OO.out⟩
open Go.RowKit
def mkF (s : Yb) : Nat → Int := upd (bt s) 31 (bits .and .u8 (bt s 31) 127)
def mkS (s : Yb) : ByteArray := bs ((List.range 32).map (mkF s))
theorem mkS_size (s : Yb) : (mkS s).size = 32 := by unfold mkS; rw [bs_size]; simp
def shE (s p : Yb) : E5 := mulF (ladF (clS s) (ofF (mkS p)) 255).dx (invF (ladF (clS s) (ofF (mkS p)) 255).dz)
theorem shE_ok (s p : Yb) : (shE s p).Ok := by
 have h := ladF_ok (clS s) (ofF_ok (mkS p)) 255
 exact mulF_ok h.dx (invF_ok h.dz)
def shS (s p : Yb) : ByteArray := if (shE s p).n % Pm = 0 then ⟨#[]⟩ else lebytes ((shE s p).n % Pm)
def shC (s p : Yb) : Int := if (shE s p).n % Pm = 0 then 30 else 0
def nineS : ByteArray := lebytes ((smallF 9).n % Pm)
theorem nineS_size : nineS.size = 32 := by decide +kernel
open Go.RowKit
structure RS where
 x2 : Int
 z2 : Int
 x3 : Int
 z3 : Int
def rstep (x1 : Int) (q : RS) : RS :=
 let a := (q.x2 + q.z2) % Pm
 let aa := a * a % Pm
 let d := (q.x2 - q.z2) % Pm
 let dd := d * d % Pm
 let e := (aa - dd) % Pm
 let da := (q.x3 - q.z3) % Pm * a % Pm
 let cb := (q.x3 + q.z3) % Pm * d % Pm
 let s := (da + cb) % Pm
 let t := (da - cb) % Pm
 ⟨aa * dd % Pm, e * ((aa + 121665 * e % Pm) % Pm) % Pm, s * s % Pm, x1 * (t * t % Pm) % Pm⟩
def RS.swap (q : RS) : RS := ⟨q.x3, q.z3, q.x2, q.z2⟩
def rladF (s : Yb) (x1 : Int) : Nat → RS
 | 0 => ⟨1, 0, x1, 1⟩
 | k + 1 => if bit s (254 - k) = 0 then rstep x1 (rladF s x1 k) else (rstep x1 (rladF s x1 k).swap).swap
structure RS.Ok (q : RS) : Prop where
 x2 : 0 ≤ q.x2 ∧ q.x2 < Pm
 z2 : 0 ≤ q.z2 ∧ q.z2 < Pm
 x3 : 0 ≤ q.x3 ∧ q.x3 < Pm
 z3 : 0 ≤ q.z3 ∧ q.z3 < Pm
theorem pmod (X : Int) : 0 ≤ X % Pm ∧ X % Pm < Pm := ⟨Int.emod_nonneg _ (by decide), Int.emod_lt_of_pos _ (by decide)⟩
theorem RS.Ok.swap {q : RS} (h : q.Ok) : q.swap.Ok := ⟨h.x3, h.z3, h.x2, h.z2⟩
theorem rstep_ok (x1 : Int) (q : RS) : (rstep x1 q).Ok := ⟨pmod _, pmod _, pmod _, pmod _⟩
theorem rladF_ok (s : Yb) {x1 : Int} (h : 0 ≤ x1 ∧ x1 < Pm) : ∀ k, (rladF s x1 k).Ok
 | 0 => ⟨⟨show (0 : Int) ≤ 1 by decide, show (1 : Int) < Pm by decide⟩, ⟨show (0 : Int) ≤ 0 by decide, show (0 : Int) < Pm by decide⟩, h, ⟨show (0 : Int) ≤ 1 by decide, show (1 : Int) < Pm by decide⟩⟩
 | k + 1 => by
  unfold rladF
  by_cases hb : bit s (254 - k) = 0
  ·rw [if_pos hb]
   exact rstep_ok _ _
  ·rw [if_neg hb]
   exact (rstep_ok _ _).swap
theorem dSP {X : Int} (h : 0 ≤ X ∧ X < Pm) : S (d16 X) 16 = X := by
 have := dS X
 rwa [Int.emod_eq_of_lt h.1 h.2] at this
open Go.RowKit
def shV (K : Yb) (X : Int) : Int := (rladF K X 255).x2 * pwm (rladF K X 255).z2 (xbit 255 21) 255 % Pm
structure Lc (l : St) (q : RS) : Prop where
 x2 : Cg l.dx.n q.x2
 z2 : Cg l.dz.n q.z2
 x3 : Cg l.px.n q.x3
 z3 : Cg l.pz.n q.z3
theorem em (X : Int) : Cg X (X % Pm) := (cg_emod X).symm
theorem step_cg {ax az bx bz x : E5} {q : RS} {X : Int} (h1 : Cg ax.n q.x2) (h2 : Cg az.n q.z2) (h3 : Cg bx.n q.x3) (h4 : Cg bz.n q.z3) (h5 : Cg x.n X) : Lc (stepF ax az bx bz x) (rstep X q) := by
 have a := ((addF_n ax az).trans (h1.add h2)).trans (em _)
 have d := ((subF_n ax az).trans (h1.sub h2)).trans (em _)
 have aa := ((mulF_n _ _).trans (a.mul a)).trans (em _)
 have dd := ((mulF_n _ _).trans (d.mul d)).trans (em _)
 have e := ((subF_n _ _).trans (aa.sub dd)).trans (em _)
 have u1 := ((subF_n bx bz).trans (h3.sub h4)).trans (em _)
 have da := ((mulF_n _ _).trans (u1.mul a)).trans (em _)
 have u2 := ((addF_n bx bz).trans (h3.add h4)).trans (em _)
 have cb := ((mulF_n _ _).trans (u2.mul d)).trans (em _)
 have s := ((addF_n _ _).trans (da.add cb)).trans (em _)
 have t := ((subF_n _ _).trans (da.sub cb)).trans (em _)
 have k := ((mulF_n _ _).trans ((smallF_n 121665).mul e)).trans (em _)
 have f := ((addF_n _ _).trans (aa.add k)).trans (em _)
 exact ⟨((mulF_n _ _).trans (aa.mul dd)).trans (em _), ((mulF_n _ _).trans (e.mul f)).trans (em _), ((mulF_n _ _).trans (s.mul s)).trans (em _), ((mulF_n _ _).trans (h5.mul (((mulF_n _ _).trans (t.mul t)).trans (em _)))).trans (em _)⟩
theorem lad_cg (K : Yb) {x : E5} {X : Int} (h : Cg x.n X) : ∀ k, Lc (ladF K x k) (rladF K X k)
 | 0 => ⟨smallF_n 1, Cg.of_eq zeroE_n, h, smallF_n 1⟩
 | k + 1 => by
  have ih := lad_cg K h k
  unfold ladF rladF
  by_cases hb : bit K (254 - k) = 0
  ·rw [if_pos hb, if_pos hb]
   exact step_cg ih.x2 ih.z2 ih.x3 ih.z3 h
  ·rw [if_neg hb, if_neg hb]
   have := step_cg (q := (rladF K X k).swap) ih.x3 ih.z3 ih.x2 ih.z2 h
   exact ⟨this.x3, this.z3, this.x2, this.z2⟩
theorem shE_V (s p : Yb) : (shE s p).n % Pm = shV (clS s) (val (mkS p) % Pm) := by
 have h := lad_cg (clS s) ((ofF_n (mkS p)).trans (em _)) 255
 exact ((mulF_n _ _).trans (h.x2.mul (rinv_val h.z2))).emod
def sS (V : Int) : ByteArray := if V = 0 then ⟨#[]⟩ else lebytes V
def sC (V : Int) : Int := if V = 0 then 30 else 0
theorem shS_V (s p : Yb) : shS s p = sS (shV (clS s) (val (mkS p) % Pm)) := by
 unfold shS sS
 rw [shE_V]
theorem shC_V (s p : Yb) : shC s p = sC (shV (clS s) (val (mkS p) % Pm)) := by
 unfold shC sC
 rw [shE_V]
theorem rb_bt (f : NI) {i : Nat} (h : i < 32) : bt (bs (rb f 32)) i = by16 f i := by
 refine bt_bs _ _ _ ?_ (by unfold by16; omega) (by unfold by16; omega)
 simp only [rb, List.getElem?_map, List.getElem?_range h, Option.map_some]
 rw [if_pos h]
theorem rb_pt {f : NI} (hf : Dig f 16) : val (bs (rb f 32)) = S f 16 := by
 rw [← pt_S]
 refine S_congr fun i hi => ?_
 have h := hf i hi
 unfold pt
 rw [if_pos (by omega), if_pos (by omega), rb_bt f (by omega), rb_bt f (by omega)]
 unfold by16
 rw [show 2 * i / 2 = i by omega, show 2 * i % 2 = 0 by omega, show (2 * i + 1) / 2 = i by omega, show (2 * i + 1) % 2 = 1 by omega]
 simp
 omega
theorem and127 {x : Int} (h0 : 0 ≤ x) (h1 : x < 128) : bits .and .u8 x 127 = x := by
 obtain ⟨X, rfl⟩ := Int.eq_ofNat_of_zero_le h0
 have hX : X < 128 := by omega
 have h : ∀ n : Fin 128, bits .and .u8 ((n.val : Nat) : Int) 127 = ((n.val : Nat) : Int) := by decide +kernel
 exact h ⟨X, hX⟩
theorem bs_bt (s : Yb) (hs : s.size = 32) : bs ((List.range 32).map (bt s)) = s := by
 have hd : (bs ((List.range 32).map (bt s))).data = s.data := by
  apply Array.ext_getElem?
  intro i
  have hs' : s.data.size = 32 := hs
  by_cases hi : i < 32
  ·simp only [bs, List.getElem?_toArray, List.getElem?_map, List.getElem?_range hi, Option.map_some, bt]
   rw [Array.getElem?_eq_getElem (by omega)]
   simp
  ·simp only [bs, List.getElem?_toArray]
   rw [List.getElem?_eq_none (by simp; omega), Array.getElem?_eq_none (by omega)]
 cases s
 unfold bs at *
 simp only at hd
 rw [hd]
theorem mk_leb {W : Int} (hW : 0 ≤ W ∧ W < Pm) : val (mkS (bs (rb (d16 W) 32))) % Pm = W := by
 have hsz : (bs (rb (d16 W) 32)).size = 32 := by rw [bs_size, rb_len]
 have hb : bt (bs (rb (d16 W) 32)) 31 < 128 := by
  rw [rb_bt _ (by omega)]
  have hP : Pm < 2 ^ 255 := by decide
  have e : d16 W 15 = W / 65536 ^ 15 % 65536 := rfl
  show d16 W (31 / 2) / 256 ^ (31 % 2) % 256 < 128
  rw [show 31 / 2 = 15 from rfl, show 31 % 2 = 1 from rfl, e]
  have h1 : W / 65536 ^ 15 < 32768 := Int.ediv_lt_of_lt_mul (by decide) (by have : (32768 : Int) * 65536 ^ 15 = 2 ^ 255 := by decide
                                                                            omega)
  have h0 : 0 ≤ W / 65536 ^ 15 := Int.ediv_nonneg hW.1 (by decide)
  generalize W / 65536 ^ 15 = Y at *
  rw [show (256 : Int) ^ 1 = 256 by decide]
  omega
 have e : mkS (bs (rb (d16 W) 32)) = bs (rb (d16 W) 32) := by
  unfold mkS
  rw [show (List.range 32).map (mkF (bs (rb (d16 W) 32))) = (List.range 32).map (bt (bs (rb (d16 W) 32))) from List.map_congr_left fun i _ => by
   unfold mkF upd
   by_cases h : i = 31
   ·rw [if_pos h, h, and127 (bt_bd _ _).1 hb]
   ·rw [if_neg h]]
  exact bs_bt _ hsz
 rw [e, rb_pt (d16_dig W 16), dSP hW, Int.emod_eq_of_lt hW.1 hW.2]
theorem leb_rb {W : Int} (hW : 0 ≤ W ∧ W < Pm) : lebytes W = bs (rb (d16 W) 32) := by
 have h := lebytes_S (f := d16 W) (d16_dig W 16)
 rwa [dSP hW] at h
theorem shV_bd (K : Yb) (X : Int) : 0 ≤ shV K X ∧ shV K X < Pm := pmod _
theorem v9 : val (mkS nineS) % Pm = 9 := by decide +kernel
end Go.Proofs.YtiahdbibeleakaaGreatDoor.Mon
namespace Go.Proofs.YtiahdbibeleakaaGreatDoor
open Go.RowKit
theorem inz164 : (Tryz.prog.info? 164).map (·.size) = some 10 := by kernel_rfl
theorem pj_0 (x z : NI) (j : Nat) (h : j < 5) : w64 (Mon.pj x z) (0 + j) = w64 x j := by
 unfold Mon.pj; simp only [w64]; rw [if_pos (by omega), Nat.zero_add]
theorem pj_1 (x z : NI) (j : Nat) (_ : j < 5) : w64 (Mon.pj x z) (5 + j) = w64 z j := by
 unfold Mon.pj; simp only [w64]; rw [if_neg (by omega), Nat.add_sub_cancel_left]
theorem qj_0 (x z : NI) (j : Nat) (h : j < 10) : w64 (Mon.qj x z) (0 + j) = w64 x j := by
 unfold Mon.qj; simp only [w64]; rw [if_pos (by omega), Nat.zero_add]
theorem qj_1 (x z : NI) (j : Nat) (_ : j < 10) : w64 (Mon.qj x z) (10 + j) = w64 z j := by
 unfold Mon.qj; simp only [w64]; rw [if_neg (by omega), Nat.add_sub_cancel_left]
theorem qp_0 (x z y : NI) (j : Nat) (h : j < 5) : w64 (Mon.qj (Mon.pj x z) y) (0 + j) = w64 x j := (qj_0 _ _ j (by omega)).trans (by have := pj_0 x z j h; rwa [Nat.zero_add] at this)
theorem qp_1 (x z y : NI) (j : Nat) (h : j < 5) : w64 (Mon.qj (Mon.pj x z) y) (5 + j) = w64 z j := by
 have := qj_0 (Mon.pj x z) y (5 + j) (by omega)
 rw [Nat.zero_add] at this
 exact this.trans (pj_1 x z j h)
theorem qq_0 (x z y : NI) (j : Nat) (_ : j < 20) : (if 0 ≤ j ∧ j < 0 + 10 then w64 y (j - 0) else w64 (Mon.qj x z) j) = w64 (Mon.qj y z) j := by
 unfold Mon.qj; simp only [w64]; by_cases h : j < 10
 ·rw [if_pos (by omega), if_pos h, Nat.sub_zero]
 ·rw [if_neg (by omega), if_neg h, if_neg h]
theorem qq_1 (x z y : NI) (j : Nat) (_ : j < 20) : (if 10 ≤ j ∧ j < 10 + 10 then w64 y (j - 10) else w64 (Mon.qj x z) j) = w64 (Mon.qj x y) j := by
 unfold Mon.qj; simp only [w64]; by_cases h : j < 10
 ·rw [if_neg (by omega), if_pos h, if_pos h]
 ·rw [if_pos (by omega), if_neg h]
theorem bcc {P : Program} {a : Act} {w : World} {c : Ctx} {L : List Blk} {fn : Func} {Φ : Ending → World → Prop} {p q : Tmp} {t0 t1 : TypeId} (h : fn.results = #[.cell p t0, .cell q t1]) (M : Mem c L w) (i0 n0 : Nat) (F0 : NV) (i1 n1 : Nat) (F1 : NV) (hX : Φ (.returned (.tuple #[.agg (av n0 F0), .agg (av n1 F1)])) w) {g0 T0 g1 T1 : Nat} (hi0 : L[i0]? = some ⟨g0, .cells (av n0 F0) T0⟩ := by exact rfl) (hp0 : Ep a p (.pointer (some ⟨g0, 0, none⟩)) := by exact ⟨by kernel_rfl⟩) (hu0 : (P.underlying t0).map TypeDesc.isRow = some true := by kernel_rfl) (hz0 : (P.info? t0).map (·.size) = some n0 := by kernel_rfl) (hi1 : L[i1]? = some ⟨g1, .cells (av n1 F1) T1⟩ := by exact rfl) (hp1 : Ep a q (.pointer (some ⟨g1, 0, none⟩)) := by exact ⟨by kernel_rfl⟩) (hu1 : (P.underlying t1).map TypeDesc.isRow = some true := by kernel_rfl) (hz1 : (P.info? t1).map (·.size) = some n1 := by kernel_rfl) (hd : a.defers = [] := by kernel_rfl) : bodyPost P fn Φ .ret a w := by
 obtain ⟨d0, e0, f0⟩ := isRow_of hu0
 obtain ⟨d1, e1, f1⟩ := isRow_of hu1
 exact bodyPost_ret (Mon.results_two h _ _ g0 g1 T0 T1 (av n0 F0) (av n1 F1) (0, 0) (0, 0) _ _ hp0.out hp1.out (M.get i0 hi0) (M.get i1 hi1) e0 (by revert f0; cases d0 <;> intro f <;> first | rfl | cases f) (by rw [av_size]; exact hz0) e1 (by revert f1; cases d1 <;> intro f <;> first | rfl | cases f) (by rw [av_size]; exact hz1)) hd hX
theorem l_bitZ {s : Yb} {p : Nat} (h : Mon.bit s p = 0) (w : World) (hs : p < 8 * s.size) (hp : p < 255) : Cs 115 #[.string s, .int .i64 (p : Int)] w (.int .i64 0) := h ▸ Mon.bitAt_any s p w hs hp
theorem l_bitN {s : Yb} {p : Nat} (h : ¬ Mon.bit s p = 0) (w : World) (hs : p < 8 * s.size) (hp : p < 255) : Cs 115 #[.string s, .int .i64 (p : Int)] w (.int .i64 1) := by
 have := Mon.bit_two s p
 have e : Mon.bit s p = 1 := by omega
 exact e ▸ Mon.bitAt_any s p w hs hp
section
variable (q : Mon.St)
def tzA : Mon.E5 := Mon.addF q.dx q.dz
def tzD : Mon.E5 := Mon.subF q.dx q.dz
def tzAA : Mon.E5 := Mon.mulF (tzA q) (tzA q)
def tzDD : Mon.E5 := Mon.mulF (tzD q) (tzD q)
def tzE : Mon.E5 := Mon.subF (tzAA q) (tzDD q)
def tzU : Mon.E5 := Mon.subF q.px q.pz
def tzDA : Mon.E5 := Mon.mulF (tzU q) (tzA q)
def tzV : Mon.E5 := Mon.addF q.px q.pz
def tzCB : Mon.E5 := Mon.mulF (tzV q) (tzD q)
def tzS : Mon.E5 := Mon.addF (tzDA q) (tzCB q)
def tzT : Mon.E5 := Mon.subF (tzDA q) (tzCB q)
def tzX2 : Mon.E5 := Mon.mulF (tzAA q) (tzDD q)
def tzF : Mon.E5 := Mon.mulF (Mon.smallF 121665) (tzE q)
def tzG : Mon.E5 := Mon.addF (tzAA q) (tzF q)
def tzZ2 : Mon.E5 := Mon.mulF (tzE q) (tzG q)
def tzX3 : Mon.E5 := Mon.mulF (tzS q) (tzS q)
def tzTT : Mon.E5 := Mon.mulF (tzT q) (tzT q)
def tzZ3 (x : Mon.E5) : Mon.E5 := Mon.mulF x (tzTT q)
end
structure TK (q : Mon.St) : Prop where
 C : (Mon.smallF 121665).Ok
 tzA : (tzA q).Ok
 tzD : (tzD q).Ok
 tzAA : (tzAA q).Ok
 tzDD : (tzDD q).Ok
 tzE : (tzE q).Ok
 tzU : (tzU q).Ok
 tzDA : (tzDA q).Ok
 tzV : (tzV q).Ok
 tzCB : (tzCB q).Ok
 tzS : (tzS q).Ok
 tzT : (tzT q).Ok
 tzX2 : (tzX2 q).Ok
 tzF : (tzF q).Ok
 tzG : (tzG q).Ok
 tzZ2 : (tzZ2 q).Ok
 tzX3 : (tzX3 q).Ok
 tzTT : (tzTT q).Ok
theorem tk {q : Mon.St} (h : q.Ok) : TK q := by
 have C := Mon.smallF_ok (n := 121665) (by decide) (by decide)
 have ktzA : (tzA q).Ok := Mon.addF_ok h.dx h.dz
 have ktzD : (tzD q).Ok := Mon.subF_ok h.dx h.dz
 have ktzAA : (tzAA q).Ok := Mon.mulF_ok ktzA ktzA
 have ktzDD : (tzDD q).Ok := Mon.mulF_ok ktzD ktzD
 have ktzE : (tzE q).Ok := Mon.subF_ok ktzAA ktzDD
 have ktzU : (tzU q).Ok := Mon.subF_ok h.px h.pz
 have ktzDA : (tzDA q).Ok := Mon.mulF_ok ktzU ktzA
 have ktzV : (tzV q).Ok := Mon.addF_ok h.px h.pz
 have ktzCB : (tzCB q).Ok := Mon.mulF_ok ktzV ktzD
 have ktzS : (tzS q).Ok := Mon.addF_ok ktzDA ktzCB
 have ktzT : (tzT q).Ok := Mon.subF_ok ktzDA ktzCB
 have ktzX2 : (tzX2 q).Ok := Mon.mulF_ok ktzAA ktzDD
 have ktzF : (tzF q).Ok := Mon.mulF_ok C ktzE
 have ktzG : (tzG q).Ok := Mon.addF_ok ktzAA ktzF
 have ktzZ2 : (tzZ2 q).Ok := Mon.mulF_ok ktzE ktzG
 have ktzX3 : (tzX3 q).Ok := Mon.mulF_ok ktzS ktzS
 have ktzTT : (tzTT q).Ok := Mon.mulF_ok ktzT ktzT
 exact ⟨C, ktzA, ktzD, ktzAA, ktzDD, ktzE, ktzU, ktzDA, ktzV, ktzCB, ktzS, ktzT, ktzX2, ktzF, ktzG, ktzZ2, ktzX3, ktzTT⟩
theorem l_step (q : Mon.St) (x : Mon.E5) (hq : q.Ok) (hx : x.Ok) (w : World) (hL : Laid w)  : Cs 116 #[.agg (av 10 (w64 (Mon.pj q.dx.f q.dz.f))), .agg (av 10 (w64 (Mon.pj q.px.f q.pz.f))), .agg (av 5 (w64 x.f))] w (.tuple #[.agg (av 10 (w64 (Mon.pj (tzX2 q).f (tzZ2 q).f))), .agg (av 10 (w64 (Mon.pj (tzX3 q).f (tzZ3 q x).f)))]) := by
 go_enter Tryz.func116, Tryz.ntmps116
 have M := Mem.start hL
 have k := tk hq
 refine sR <| pN M 3 (.cells (av 10 (w64 (Mon.pj q.dx.f q.dz.f))) 164) fun g1 u1 M => ?_
 replace M := M.nf
 refine pN M 4 (.cells (av 10 (w64 (Mon.pj q.px.f q.pz.f))) 164) fun g2 u2 M => ?_
 replace M := M.nf
 refine pN M 5 (.cells (av 5 (w64 x.f)) 143) fun g3 u3 M => ?_
 replace M := M.nf
 refine pN M 6 (.cells (av 10 (w64 (fun _ => 0))) 164) fun g4 u4 M => ?_
 replace M := M.nf
 refine pN M 7 (.cells (av 10 (w64 (fun _ => 0))) 164) fun g5 u5 M => ?_
 replace M := M.nf
 refine nT <| wp_seq <| rg_allocs M 10 [(8, fun g => .pointer (some ⟨g, 0, none⟩), .cells (av 5 (w64 (fun _ => 0))) 143), (9, fun g => .pointer (some ⟨g, 0, none⟩), .cells (av 5 (w64 (fun _ => 0))) 143)] (by kernel_rfl) (by kernel_rfl) (⟨rfl, rfl, fun _ _ => by kernel_rfl, ⟨rfl, rfl, fun _ _ => by kernel_rfl, trivial⟩⟩) (by decide) ?_
 simp only [List.take_succ_cons, List.take_zero]
 refine kR 1 <| kL M 20 0 rfl 0 5 (w64 q.dx.f) (fun j hj => pj_0 _ _ j hj) <| kR 1 <| kL M 22 0 rfl 5 5 (w64 q.dz.f) (fun j hj => pj_1 _ _ j hj) <| kD M 23 (.agg (av 5 (w64 (tzA q).f))) (fun w M => Mon.add_any q.dx q.dz w hq.dx hq.dz) <| kR 1 <| kL M 25 0 rfl 0 5 (w64 q.dx.f) (fun j hj => pj_0 _ _ j hj) <| kR 1 <| kL M 27 0 rfl 5 5 (w64 q.dz.f) (fun j hj => pj_1 _ _ j hj) <| kD M 28 (.agg (av 5 (w64 (tzD q).f))) (fun w M => Mon.sub_any q.dx q.dz w hq.dx hq.dz) <| kl_nil fun u6 g6 g7 M => ?_
 replace M := M.nf
 refine ZG M 5 5 (w64 (tzA q).f) fun u7 M => ?_
 replace M := M.nf
 refine ZG M 6 5 (w64 (tzD q).f) fun u8 M => ?_
 replace M := M.nf
 refine nT <| wp_seq <| rg_allocs M 6 [(10, fun g => .pointer (some ⟨g, 0, none⟩), .cells (av 5 (w64 (fun _ => 0))) 143), (11, fun g => .pointer (some ⟨g, 0, none⟩), .cells (av 5 (w64 (fun _ => 0))) 143)] (by kernel_rfl) (by kernel_rfl) (⟨rfl, rfl, fun _ _ => by kernel_rfl, ⟨rfl, rfl, fun _ _ => by kernel_rfl, trivial⟩⟩) (by decide) ?_
 simp only [List.take_succ_cons, List.take_zero]
 refine kB M 29 5 <| kB M 30 5 <| kD M 31 (.agg (av 5 (w64 (tzAA q).f))) (fun w M => Mon.mul_any (tzA q) (tzA q) w k.tzA k.tzA) <| kB M 32 6 <| kB M 33 6 <| kD M 34 (.agg (av 5 (w64 (tzDD q).f))) (fun w M => Mon.mul_any (tzD q) (tzD q) w k.tzD k.tzD) <| kl_nil fun u9 g8 g9 M => ?_
 replace M := M.nf
 refine ZG M 7 5 (w64 (tzAA q).f) fun u10 M => ?_
 replace M := M.nf
 refine ZG M 8 5 (w64 (tzDD q).f) fun u11 M => ?_
 replace M := M.nf
 refine nT <| sR <| pB M 35 7 <| pB M 36 8 <| pD M 37 (.agg (av 5 (w64 (tzE q).f))) (fun w M => Mon.sub_any (tzAA q) (tzDD q) w k.tzAA k.tzDD) fun u12 M => pN M 12 (.cells (av 5 (w64 (fun _ => 0))) 143) fun g10 u13 M => ?_
 replace M := M.nf
 refine ZG M 9 5 (w64 (tzE q).f) fun u14 M => ?_
 replace M := M.nf
 refine nT <| wp_seq ?_
 replace M := M.drop (.cons _ (.cons_cons _ (.cons_cons _ (.cons_cons _ (.cons_cons _ (.cons_cons _ (.cons_cons _ (.cons_cons _ (.cons_cons _ (.cons_cons _ (.slnil)))))))))))
 replace M := M.nf
 refine rg_allocs M 14 [(13, fun g => .pointer (some ⟨g, 0, none⟩), .cells (av 5 (w64 (fun _ => 0))) 143), (14, fun g => .pointer (some ⟨g, 0, none⟩), .cells (av 5 (w64 (fun _ => 0))) 143)] (by kernel_rfl) (by kernel_rfl) (⟨rfl, rfl, fun _ _ => by kernel_rfl, ⟨rfl, rfl, fun _ _ => by kernel_rfl, trivial⟩⟩) (by decide) ?_
 simp only [List.take_succ_cons, List.take_zero]
 refine kR 1 <| kL M 39 0 rfl 0 5 (w64 q.px.f) (fun j hj => pj_0 _ _ j hj) <| kR 1 <| kL M 41 0 rfl 5 5 (w64 q.pz.f) (fun j hj => pj_1 _ _ j hj) <| kD M 42 (.agg (av 5 (w64 (tzU q).f))) (fun w M => Mon.sub_any q.px q.pz w hq.px hq.pz) <| kB M 43 4 <| kD M 44 (.agg (av 5 (w64 (tzDA q).f))) (fun w M => Mon.mul_any (tzU q) (tzA q) w k.tzU k.tzA) <| kR 1 <| kL M 46 0 rfl 0 5 (w64 q.px.f) (fun j hj => pj_0 _ _ j hj) <| kR 1 <| kL M 48 0 rfl 5 5 (w64 q.pz.f) (fun j hj => pj_1 _ _ j hj) <| kD M 49 (.agg (av 5 (w64 (tzV q).f))) (fun w M => Mon.add_any q.px q.pz w hq.px hq.pz) <| kB M 50 5 <| kD M 51 (.agg (av 5 (w64 (tzCB q).f))) (fun w M => Mon.mul_any (tzV q) (tzD q) w k.tzV k.tzD) <| kl_nil fun u15 g11 g12 M => ?_
 replace M := M.nf
 refine ZG M 9 5 (w64 (tzDA q).f) fun u16 M => ?_
 replace M := M.nf
 refine ZG M 10 5 (w64 (tzCB q).f) fun u17 M => ?_
 replace M := M.nf
 refine nT <| wp_seq ?_
 replace M := M.drop (.cons _ (.cons_cons _ (.cons_cons _ (.cons_cons _ (.cons _ (.cons _ (.cons_cons _ (.cons_cons _ (.cons_cons _ (.cons_cons _ (.cons_cons _ (.slnil))))))))))))
 replace M := M.nf
 refine rg_allocs M 6 [(15, fun g => .pointer (some ⟨g, 0, none⟩), .cells (av 5 (w64 (fun _ => 0))) 143), (16, fun g => .pointer (some ⟨g, 0, none⟩), .cells (av 5 (w64 (fun _ => 0))) 143)] (by kernel_rfl) (by kernel_rfl) (⟨rfl, rfl, fun _ _ => by kernel_rfl, ⟨rfl, rfl, fun _ _ => by kernel_rfl, trivial⟩⟩) (by decide) ?_
 simp only [List.take_succ_cons, List.take_zero]
 refine kB M 52 6 <| kB M 53 7 <| kD M 54 (.agg (av 5 (w64 (tzS q).f))) (fun w M => Mon.add_any (tzDA q) (tzCB q) w k.tzDA k.tzCB) <| kB M 55 6 <| kB M 56 7 <| kD M 57 (.agg (av 5 (w64 (tzT q).f))) (fun w M => Mon.sub_any (tzDA q) (tzCB q) w k.tzDA k.tzCB) <| kl_nil fun u18 g13 g14 M => ?_
 replace M := M.nf
 refine ZG M 8 5 (w64 (tzS q).f) fun u19 M => ?_
 replace M := M.nf
 refine ZG M 9 5 (w64 (tzT q).f) fun u20 M => ?_
 replace M := M.nf
 refine nT <| wp_seq ?_
 replace M := M.drop (.cons_cons _ (.cons_cons _ (.cons_cons _ (.cons_cons _ (.cons_cons _ (.cons_cons _ (.cons _ (.cons _ (.cons_cons _ (.cons_cons _ (.slnil)))))))))))
 replace M := M.nf
 refine rg_allocs M 11 [(17, fun g => .pointer (some ⟨g, 0, none⟩), .cells (av 10 (w64 (fun _ => 0))) 164)] (by kernel_rfl) (by kernel_rfl) (⟨rfl, rfl, fun _ _ => by kernel_rfl, trivial⟩) (by decide) ?_
 simp only [List.take_succ_cons, List.take_zero]
 refine kB M 58 3 <| kB M 59 4 <| kD M 60 (.agg (av 5 (w64 (tzX2 q).f))) (fun w M => Mon.mul_any (tzAA q) (tzDD q) w k.tzAA k.tzDD) <| kB M 61 5 <| kB M 62 3 <| kD M 63 (.agg (av 5 (w64 (Mon.smallF 121665).f))) (fun w M => Mon.small_any 121665 w (by decide) (by decide)) <| kB M 64 5 <| kD M 65 (.agg (av 5 (w64 (tzF q).f))) (fun w M => Mon.mul_any (Mon.smallF 121665) (tzE q) w k.C k.tzE) <| kD M 66 (.agg (av 5 (w64 (tzG q).f))) (fun w M => Mon.add_any (tzAA q) (tzF q) w k.tzAA k.tzF) <| kD M 67 (.agg (av 5 (w64 (tzZ2 q).f))) (fun w M => Mon.mul_any (tzE q) (tzG q) w k.tzE k.tzG) <| kR 1 <| kl_nil fun u21 g15 M => ?_
 replace M := M.nf
 refine ZG M 8 10 (w64 (Mon.pj (tzX2 q).f (tzZ2 q).f)) fun u22 M => ?_
 replace M := M.nf
 refine nT <| wp_seq ?_
 replace M := M.drop (.cons_cons _ (.cons_cons _ (.cons_cons _ (.cons _ (.cons _ (.cons _ (.cons_cons _ (.cons_cons _ (.cons_cons _ (.slnil))))))))))
 replace M := M.nf
 refine rg_allocs M 9 [(18, fun g => .pointer (some ⟨g, 0, none⟩), .cells (av 10 (w64 (fun _ => 0))) 164)] (by kernel_rfl) (by kernel_rfl) (⟨rfl, rfl, fun _ _ => by kernel_rfl, trivial⟩) (by decide) ?_
 simp only [List.take_succ_cons, List.take_zero]
 refine kB M 69 3 <| kB M 70 3 <| kD M 71 (.agg (av 5 (w64 (tzX3 q).f))) (fun w M => Mon.mul_any (tzS q) (tzS q) w k.tzS k.tzS) <| kB M 72 0 <| kB M 73 4 <| kB M 74 4 <| kD M 75 (.agg (av 5 (w64 (tzTT q).f))) (fun w M => Mon.mul_any (tzT q) (tzT q) w k.tzT k.tzT) <| kD M 76 (.agg (av 5 (w64 (tzZ3 q x).f))) (fun w M => Mon.mul_any x (tzTT q) w hx k.tzTT) <| kR 1 <| kl_nil fun u23 g16 M => ?_
 replace M := M.nf
 refine ZG M 6 10 (w64 (Mon.pj (tzX3 q).f (tzZ3 q x).f)) fun u24 M => ?_
 replace M := M.nf
 refine nT <| wp_seq ?_
 replace M := M.drop (.cons _ (.cons_cons _ (.cons_cons _ (.cons _ (.cons _ (.cons_cons _ (.cons_cons _ (.slnil))))))))
 replace M := M.nf
 refine rgh M [⟨g5, .cells (av 10 (w64 (fun _ => 0))) 164⟩, ⟨g15, .cells (av 10 (w64 (Mon.pj (tzX2 q).f (tzZ2 q).f))) 164⟩, ⟨g16, .cells (av 10 (w64 (Mon.pj (tzX3 q).f (tzZ3 q x).f))) 164⟩] 3 fun u25 M => ?_
 replace M := M.nf
 refine qA (M.drop (.cons _ (.cons_cons _ (.cons_cons _ (.cons_cons _ (.slnil)))))) 0 78 1 10 (w64 (Mon.pj (tzX2 q).f (tzZ2 q).f)) <| qA (M.drop (.cons _ (.cons_cons _ (.cons_cons _ (.cons_cons _ (.slnil)))))) 1 79 2 10 (w64 (Mon.pj (tzX3 q).f (tzZ3 q x).f)) <| qO 2 ?_
 refine ZG M 0 10 (w64 (Mon.pj (tzX2 q).f (tzZ2 q).f)) fun u26 M => ?_
 replace M := M.nf
 refine nT ?_
 refine ⟨(M.drop (.cons _ (.cons_cons _ (.cons_cons _ (.cons_cons _ (.slnil)))))), ?_⟩
 refine qZ ?_
 refine ZG M 1 10 (w64 (Mon.pj (tzX3 q).f (tzZ3 q x).f)) fun u27 M => ?_
 replace M := M.nf
 refine nT <| au_then <| wp_ret ?_
 exact bcc Tryz.results116 M 0 10 (w64 (Mon.pj (tzX2 q).f (tzZ2 q).f)) 1 10 (w64 (Mon.pj (tzX3 q).f (tzZ3 q x).f)) ⟨rfl, below_grown M.old⟩
def swQ (q : Mon.St) : Mon.St := ⟨q.px, q.pz, q.dx, q.dz⟩
theorem swQ_ok {q : Mon.St} (h : q.Ok) : (swQ q).Ok := ⟨h.px, h.pz, h.dx, h.dz⟩
theorem l_times (s : Yb) (e : Mon.E5) (hs : s.size = 32) (hx : e.Ok) (w : World) (hL : Laid w)  : Cs 93 #[.string s, .agg (av 5 (w64 e.f))] w (.agg (av 5 (w64 (Mon.mulF (Mon.ladF s e 255).dx (Mon.invF (Mon.ladF s e 255).dz)).f))) := by
 go_enter Tryz.func93, Tryz.ntmps93
 have M := Mem.start hL
 refine sR <| pN M 3 (.cells (av 5 (w64 e.f)) 143) fun g1 u1 M => ?_
 replace M := M.nf
 refine pN M 4 (.cells (av 5 (w64 (fun _ => 0))) 143) fun g2 u2 M => ?_
 replace M := M.nf
 refine nT <| sR <| pD M 9 (.agg (av 5 (w64 (Mon.smallF 1).f))) (fun w M => Mon.small_any 1 w (by decide) (by decide)) fun u3 M => pN M 5 (.cells (av 5 (w64 (fun _ => 0))) 143) fun g3 u4 M => ?_
 replace M := M.nf
 refine ZG M 2 5 (w64 (Mon.smallF 1).f) fun u5 M => ?_
 replace M := M.nf
 refine nT <| sR <| pB M 10 2 <| rV 1 <| pB M 12 0 <| pB M 13 2 <| rV 2 <| pN M 6 (.cells (av 20 (w64 (fun _ => 0))) 165) fun g4 u6 M => ?_
 replace M := M.nf
 refine ZG M 3 20 (w64 (Mon.qj (Mon.pj (Mon.smallF 1).f Mon.zeroE.f) (Mon.pj e.f (Mon.smallF 1).f))) fun u7 M => ?_
 replace M := M.nf
 refine nT <| wp_seq <| sq <| wp_block ?_
 refine au_loop (fun j a w' => ∃ v1 : NV, a = (fm ([.string s, .agg (av 5 (w64 e.f)), v1 2, .pointer (some ⟨g1, 0, none⟩), .pointer (some ⟨g2, 0, none⟩), .pointer (some ⟨g3, 0, none⟩), .pointer (some ⟨g4, 0, none⟩)] ++ vr v1 7 9 ++ [.int .i64 (j : Int)] ++ vr v1 17 32)) ∧ Mem ⟨w, []⟩ [⟨g1, .cells (av 5 (w64 e.f)) 143⟩, ⟨g2, .cells (av 5 (w64 (fun _ => 0))) 143⟩, ⟨g3, .cells (av 5 (w64 (Mon.smallF 1).f)) 143⟩, ⟨g4, .cells (av 20 (w64 (Mon.qj (Mon.pj (Mon.ladF s e j).dx.f (Mon.ladF s e j).dz.f) (Mon.pj (Mon.ladF s e j).px.f (Mon.ladF s e j).pz.f)))) 165⟩] w') 255 (exS M) ?_ ?_
 ·intro j a u0 hj hI
  obtain ⟨v1, rfl, M⟩ := hI
  obtain ⟨q, hqe⟩ : ∃ q, Mon.ladF s e j = q := ⟨_, rfl⟩
  have hq : q.Ok := hqe ▸ Mon.ladF_ok s hx j
  rw [hqe] at M
  obtain ⟨p, hp⟩ : ∃ p : Nat, 254 - j = p := ⟨_, rfl⟩
  refine sR <| ZT 17 ((j : Int) < 255) <| nT <| wp_seq <| cT <| wp_skip <| au_then <| wp_seq <| wp_block <| sq <| sR <| rV 2 <| ZI 21 ((254 : Int) - (j : Int)) (p : Int) ?_
  by_cases c0 : (Mon.bit s p) = 0
  ·refine pD M 22 (.int .i64 0) (fun w M => l_bitZ c0 w (by omega) (by omega)) fun u8 M => rV 1 <| nT <| rgh M [⟨g1, .cells (av 5 (w64 e.f)) 143⟩, ⟨g2, .cells (av 5 (w64 (fun _ => 0))) 143⟩, ⟨g3, .cells (av 5 (w64 (Mon.smallF 1).f)) 143⟩] 18 fun u9 M => ?_
   replace M := M.nf
   have qM := M.drop (.cons_cons _ (.cons_cons _ (.cons_cons _ (.cons _ (.slnil)))))
   refine qV qM 0 24 (.int .i64 0) <| qV qM 1 25 (.int .i64 0) <| qV qM 2 26 (.int .i64 1) <| qV qM 3 27 (.int .i64 0) <| qH qM 4 28 (.pointer (some ⟨g4, 0, none⟩)) (fun w _ => (fun _ => by kernel_rfl) w) <| qV qM 6 30 (.int .i64 0) <| qV qM 7 31 (.int .i64 1) <| qH qM 8 32 (.pointer (some ⟨g4, 10, none⟩)) (fun w _ => (fun _ => by kernel_rfl) w) <| qA qM 10 34 0 5 (w64 e.f) ?_
   refine hl_two 5 9 (by decide) (by decide) (by kernel_rfl) rfl rfl ?_ ?_
   ·refine pL M 29 3 rfl 0 10 (w64 (Mon.pj q.dx.f q.dz.f)) (fun j hj => qj_0 _ _ j hj) <| nT ?_
    refine ⟨(M.drop (.cons_cons _ (.cons_cons _ (.cons_cons _ (.cons _ (.slnil)))))), ?_⟩
    refine qO 9 ?_
    refine pL M 33 3 rfl 10 10 (w64 (Mon.pj q.px.f q.pz.f)) (fun j hj => qj_1 _ _ j hj) <| nT ?_
    refine ⟨(M.drop (.cons_cons _ (.cons_cons _ (.cons_cons _ (.cons _ (.slnil)))))), ?_⟩
    refine qO 11 ?_
    refine pD M 35 (.tuple #[.agg (av 10 (w64 (Mon.pj (tzX2 q).f (tzZ2 q).f))), .agg (av 10 (w64 (Mon.pj (tzX3 q).f (tzZ3 q e).f)))]) (fun w M => l_step q e hq hx w M.laid) fun u10 M => nT ?_
    refine ⟨(M.drop (.cons_cons _ (.cons_cons _ (.cons_cons _ (.cons _ (.slnil)))))), ?_⟩
    have qM := M.drop (.cons_cons _ (.cons_cons _ (.cons_cons _ (.cons _ (.slnil)))))
    refine qV qM 12 23 (.tuple #[.agg (av 10 (w64 (Mon.pj (tzX2 q).f (tzZ2 q).f))), .agg (av 10 (w64 (Mon.pj (tzX3 q).f (tzZ3 q e).f)))]) <| qV qM 13 36 (.agg (av 10 (w64 (Mon.pj (tzX2 q).f (tzZ2 q).f)))) <| qV qM 14 37 (.agg (av 10 (w64 (Mon.pj (tzX3 q).f (tzZ3 q e).f)))) <| qH qM 15 38 (.pointer (some ⟨g4, 0, none⟩)) (fun w _ => (fun _ => by kernel_rfl) w) <| qO 16 ?_
    refine pl_put M (want_no rfl) rfl 164 _ _ rfl 3 g4 0 (by kernel_rfl) 20 165 (w64 (Mon.qj (Mon.pj q.dx.f q.dz.f) (Mon.pj q.px.f q.pz.f))) rfl 10 (w64 (Mon.pj (tzX2 q).f (tzZ2 q).f)) (w64 (Mon.qj (Mon.pj (tzX2 q).f (tzZ2 q).f) (Mon.pj q.px.f q.pz.f))) (by kernel_rfl) inz164 (by decide) (fun _ _ => rfl) (fun j hj => qq_0 _ _ _ j hj) fun u11 M => ?_
    replace M := M.nf
    refine nT ?_
    refine ⟨(M.drop (.cons_cons _ (.cons_cons _ (.cons_cons _ (.cons _ (.slnil)))))), ?_⟩
    refine qH (M.drop (.cons_cons _ (.cons_cons _ (.cons_cons _ (.cons _ (.slnil)))))) 17 39 (.pointer (some ⟨g4, 10, none⟩)) (fun w _ => (fun _ => by kernel_rfl) w) <| qZ ?_
    refine pl_put M (want_no rfl) rfl 164 _ _ rfl 3 g4 10 (by kernel_rfl) 20 165 (w64 (Mon.qj (Mon.pj (tzX2 q).f (tzZ2 q).f) (Mon.pj q.px.f q.pz.f))) rfl 10 (w64 (Mon.pj (tzX3 q).f (tzZ3 q e).f)) (w64 (Mon.qj (Mon.pj (tzX2 q).f (tzZ2 q).f) (Mon.pj (tzX3 q).f (tzZ3 q e).f))) (by kernel_rfl) inz164 (by decide) (fun _ _ => rfl) (fun j hj => qq_1 _ _ _ j hj) fun u12 M => ?_
    replace M := M.nf
    refine nT <| au_block <| au_then <| rg_lit <| zW 40 ((j : Int) + 1) <| rV 1 <| nT ?_
    have e0 : Mon.ladF s e (j + 1) = ⟨tzX2 q, tzZ2 q, tzX3 q, tzZ3 q e⟩ := by
     show (if Mon.bit s (254 - j) = 0 then _ else _) = _
     rw [hp, if_pos c0, hqe]
     rfl
    exact exS (by rw [e0]; exact M)
   ·refine pL M 33 3 rfl 10 10 (w64 (Mon.pj q.px.f q.pz.f)) (fun j hj => qj_1 _ _ j hj) <| nT ?_
    refine ⟨(M.drop (.cons_cons _ (.cons_cons _ (.cons_cons _ (.cons _ (.slnil)))))), ?_⟩
    refine qO 5 ?_
    refine pL M 29 3 rfl 0 10 (w64 (Mon.pj q.dx.f q.dz.f)) (fun j hj => qj_0 _ _ j hj) <| nT ?_
    refine ⟨(M.drop (.cons_cons _ (.cons_cons _ (.cons_cons _ (.cons _ (.slnil)))))), ?_⟩
    refine qO 11 ?_
    refine pD M 35 (.tuple #[.agg (av 10 (w64 (Mon.pj (tzX2 q).f (tzZ2 q).f))), .agg (av 10 (w64 (Mon.pj (tzX3 q).f (tzZ3 q e).f)))]) (fun w M => l_step q e hq hx w M.laid) fun u10 M => nT ?_
    refine ⟨(M.drop (.cons_cons _ (.cons_cons _ (.cons_cons _ (.cons _ (.slnil)))))), ?_⟩
    have qM := M.drop (.cons_cons _ (.cons_cons _ (.cons_cons _ (.cons _ (.slnil)))))
    refine qV qM 12 23 (.tuple #[.agg (av 10 (w64 (Mon.pj (tzX2 q).f (tzZ2 q).f))), .agg (av 10 (w64 (Mon.pj (tzX3 q).f (tzZ3 q e).f)))]) <| qV qM 13 36 (.agg (av 10 (w64 (Mon.pj (tzX2 q).f (tzZ2 q).f)))) <| qV qM 14 37 (.agg (av 10 (w64 (Mon.pj (tzX3 q).f (tzZ3 q e).f)))) <| qH qM 15 38 (.pointer (some ⟨g4, 0, none⟩)) (fun w _ => (fun _ => by kernel_rfl) w) <| qO 16 ?_
    refine pl_put M (want_no rfl) rfl 164 _ _ rfl 3 g4 0 (by kernel_rfl) 20 165 (w64 (Mon.qj (Mon.pj q.dx.f q.dz.f) (Mon.pj q.px.f q.pz.f))) rfl 10 (w64 (Mon.pj (tzX2 q).f (tzZ2 q).f)) (w64 (Mon.qj (Mon.pj (tzX2 q).f (tzZ2 q).f) (Mon.pj q.px.f q.pz.f))) (by kernel_rfl) inz164 (by decide) (fun _ _ => rfl) (fun j hj => qq_0 _ _ _ j hj) fun u11 M => ?_
    replace M := M.nf
    refine nT ?_
    refine ⟨(M.drop (.cons_cons _ (.cons_cons _ (.cons_cons _ (.cons _ (.slnil)))))), ?_⟩
    refine qH (M.drop (.cons_cons _ (.cons_cons _ (.cons_cons _ (.cons _ (.slnil)))))) 17 39 (.pointer (some ⟨g4, 10, none⟩)) (fun w _ => (fun _ => by kernel_rfl) w) <| qZ ?_
    refine pl_put M (want_no rfl) rfl 164 _ _ rfl 3 g4 10 (by kernel_rfl) 20 165 (w64 (Mon.qj (Mon.pj (tzX2 q).f (tzZ2 q).f) (Mon.pj q.px.f q.pz.f))) rfl 10 (w64 (Mon.pj (tzX3 q).f (tzZ3 q e).f)) (w64 (Mon.qj (Mon.pj (tzX2 q).f (tzZ2 q).f) (Mon.pj (tzX3 q).f (tzZ3 q e).f))) (by kernel_rfl) inz164 (by decide) (fun _ _ => rfl) (fun j hj => qq_1 _ _ _ j hj) fun u12 M => ?_
    replace M := M.nf
    refine nT <| au_block <| au_then <| rg_lit <| zW 40 ((j : Int) + 1) <| rV 1 <| nT ?_
    have e0 : Mon.ladF s e (j + 1) = ⟨tzX2 q, tzZ2 q, tzX3 q, tzZ3 q e⟩ := by
     show (if Mon.bit s (254 - j) = 0 then _ else _) = _
     rw [hp, if_pos c0, hqe]
     rfl
    exact exS (by rw [e0]; exact M)
  ·refine pD M 22 (.int .i64 1) (fun w M => l_bitN c0 w (by omega) (by omega)) fun u8 M => rV 1 <| nT <| rgh M [⟨g1, .cells (av 5 (w64 e.f)) 143⟩, ⟨g2, .cells (av 5 (w64 (fun _ => 0))) 143⟩, ⟨g3, .cells (av 5 (w64 (Mon.smallF 1).f)) 143⟩] 18 fun u9 M => ?_
   replace M := M.nf
   have qM := M.drop (.cons_cons _ (.cons_cons _ (.cons_cons _ (.cons _ (.slnil)))))
   refine qV qM 0 24 (.int .i64 1) <| qV qM 1 25 (.int .i64 1) <| qV qM 2 26 (.int .i64 0) <| qV qM 3 27 (.int .i64 1) <| qH qM 4 28 (.pointer (some ⟨g4, 10, none⟩)) (fun w _ => (fun _ => by kernel_rfl) w) <| qV qM 6 30 (.int .i64 1) <| qV qM 7 31 (.int .i64 0) <| qH qM 8 32 (.pointer (some ⟨g4, 0, none⟩)) (fun w _ => (fun _ => by kernel_rfl) w) <| qA qM 10 34 0 5 (w64 e.f) ?_
   refine hl_two 5 9 (by decide) (by decide) (by kernel_rfl) rfl rfl ?_ ?_
   ·refine pL M 29 3 rfl 10 10 (w64 (Mon.pj q.px.f q.pz.f)) (fun j hj => qj_1 _ _ j hj) <| nT ?_
    refine ⟨(M.drop (.cons_cons _ (.cons_cons _ (.cons_cons _ (.cons _ (.slnil)))))), ?_⟩
    refine qO 9 ?_
    refine pL M 33 3 rfl 0 10 (w64 (Mon.pj q.dx.f q.dz.f)) (fun j hj => qj_0 _ _ j hj) <| nT ?_
    refine ⟨(M.drop (.cons_cons _ (.cons_cons _ (.cons_cons _ (.cons _ (.slnil)))))), ?_⟩
    refine qO 11 ?_
    refine pD M 35 (.tuple #[.agg (av 10 (w64 (Mon.pj (tzX2 (swQ q)).f (tzZ2 (swQ q)).f))), .agg (av 10 (w64 (Mon.pj (tzX3 (swQ q)).f (tzZ3 (swQ q) e).f)))]) (fun w M => l_step (swQ q) e (swQ_ok hq) hx w M.laid) fun u10 M => nT ?_
    refine ⟨(M.drop (.cons_cons _ (.cons_cons _ (.cons_cons _ (.cons _ (.slnil)))))), ?_⟩
    have qM := M.drop (.cons_cons _ (.cons_cons _ (.cons_cons _ (.cons _ (.slnil)))))
    refine qV qM 12 23 (.tuple #[.agg (av 10 (w64 (Mon.pj (tzX2 (swQ q)).f (tzZ2 (swQ q)).f))), .agg (av 10 (w64 (Mon.pj (tzX3 (swQ q)).f (tzZ3 (swQ q) e).f)))]) <| qV qM 13 36 (.agg (av 10 (w64 (Mon.pj (tzX2 (swQ q)).f (tzZ2 (swQ q)).f)))) <| qV qM 14 37 (.agg (av 10 (w64 (Mon.pj (tzX3 (swQ q)).f (tzZ3 (swQ q) e).f)))) <| qH qM 15 38 (.pointer (some ⟨g4, 10, none⟩)) (fun w _ => (fun _ => by kernel_rfl) w) <| qO 16 ?_
    refine pl_put M (want_no rfl) rfl 164 _ _ rfl 3 g4 10 (by kernel_rfl) 20 165 (w64 (Mon.qj (Mon.pj q.dx.f q.dz.f) (Mon.pj q.px.f q.pz.f))) rfl 10 (w64 (Mon.pj (tzX2 (swQ q)).f (tzZ2 (swQ q)).f)) (w64 (Mon.qj (Mon.pj q.dx.f q.dz.f) (Mon.pj (tzX2 (swQ q)).f (tzZ2 (swQ q)).f))) (by kernel_rfl) inz164 (by decide) (fun _ _ => rfl) (fun j hj => qq_1 _ _ _ j hj) fun u11 M => ?_
    replace M := M.nf
    refine nT ?_
    refine ⟨(M.drop (.cons_cons _ (.cons_cons _ (.cons_cons _ (.cons _ (.slnil)))))), ?_⟩
    refine qH (M.drop (.cons_cons _ (.cons_cons _ (.cons_cons _ (.cons _ (.slnil)))))) 17 39 (.pointer (some ⟨g4, 0, none⟩)) (fun w _ => (fun _ => by kernel_rfl) w) <| qZ ?_
    refine pl_put M (want_no rfl) rfl 164 _ _ rfl 3 g4 0 (by kernel_rfl) 20 165 (w64 (Mon.qj (Mon.pj q.dx.f q.dz.f) (Mon.pj (tzX2 (swQ q)).f (tzZ2 (swQ q)).f))) rfl 10 (w64 (Mon.pj (tzX3 (swQ q)).f (tzZ3 (swQ q) e).f)) (w64 (Mon.qj (Mon.pj (tzX3 (swQ q)).f (tzZ3 (swQ q) e).f) (Mon.pj (tzX2 (swQ q)).f (tzZ2 (swQ q)).f))) (by kernel_rfl) inz164 (by decide) (fun _ _ => rfl) (fun j hj => qq_0 _ _ _ j hj) fun u12 M => ?_
    replace M := M.nf
    refine nT <| au_block <| au_then <| rg_lit <| zW 40 ((j : Int) + 1) <| rV 1 <| nT ?_
    have e0 : Mon.ladF s e (j + 1) = ⟨tzX3 (swQ q), tzZ3 (swQ q) e, tzX2 (swQ q), tzZ2 (swQ q)⟩ := by
     show (if Mon.bit s (254 - j) = 0 then _ else _) = _
     rw [hp, if_neg c0, hqe]
     rfl
    exact exS (by rw [e0]; exact M)
   ·refine pL M 33 3 rfl 0 10 (w64 (Mon.pj q.dx.f q.dz.f)) (fun j hj => qj_0 _ _ j hj) <| nT ?_
    refine ⟨(M.drop (.cons_cons _ (.cons_cons _ (.cons_cons _ (.cons _ (.slnil)))))), ?_⟩
    refine qO 5 ?_
    refine pL M 29 3 rfl 10 10 (w64 (Mon.pj q.px.f q.pz.f)) (fun j hj => qj_1 _ _ j hj) <| nT ?_
    refine ⟨(M.drop (.cons_cons _ (.cons_cons _ (.cons_cons _ (.cons _ (.slnil)))))), ?_⟩
    refine qO 11 ?_
    refine pD M 35 (.tuple #[.agg (av 10 (w64 (Mon.pj (tzX2 (swQ q)).f (tzZ2 (swQ q)).f))), .agg (av 10 (w64 (Mon.pj (tzX3 (swQ q)).f (tzZ3 (swQ q) e).f)))]) (fun w M => l_step (swQ q) e (swQ_ok hq) hx w M.laid) fun u10 M => nT ?_
    refine ⟨(M.drop (.cons_cons _ (.cons_cons _ (.cons_cons _ (.cons _ (.slnil)))))), ?_⟩
    have qM := M.drop (.cons_cons _ (.cons_cons _ (.cons_cons _ (.cons _ (.slnil)))))
    refine qV qM 12 23 (.tuple #[.agg (av 10 (w64 (Mon.pj (tzX2 (swQ q)).f (tzZ2 (swQ q)).f))), .agg (av 10 (w64 (Mon.pj (tzX3 (swQ q)).f (tzZ3 (swQ q) e).f)))]) <| qV qM 13 36 (.agg (av 10 (w64 (Mon.pj (tzX2 (swQ q)).f (tzZ2 (swQ q)).f)))) <| qV qM 14 37 (.agg (av 10 (w64 (Mon.pj (tzX3 (swQ q)).f (tzZ3 (swQ q) e).f)))) <| qH qM 15 38 (.pointer (some ⟨g4, 10, none⟩)) (fun w _ => (fun _ => by kernel_rfl) w) <| qO 16 ?_
    refine pl_put M (want_no rfl) rfl 164 _ _ rfl 3 g4 10 (by kernel_rfl) 20 165 (w64 (Mon.qj (Mon.pj q.dx.f q.dz.f) (Mon.pj q.px.f q.pz.f))) rfl 10 (w64 (Mon.pj (tzX2 (swQ q)).f (tzZ2 (swQ q)).f)) (w64 (Mon.qj (Mon.pj q.dx.f q.dz.f) (Mon.pj (tzX2 (swQ q)).f (tzZ2 (swQ q)).f))) (by kernel_rfl) inz164 (by decide) (fun _ _ => rfl) (fun j hj => qq_1 _ _ _ j hj) fun u11 M => ?_
    replace M := M.nf
    refine nT ?_
    refine ⟨(M.drop (.cons_cons _ (.cons_cons _ (.cons_cons _ (.cons _ (.slnil)))))), ?_⟩
    refine qH (M.drop (.cons_cons _ (.cons_cons _ (.cons_cons _ (.cons _ (.slnil)))))) 17 39 (.pointer (some ⟨g4, 0, none⟩)) (fun w _ => (fun _ => by kernel_rfl) w) <| qZ ?_
    refine pl_put M (want_no rfl) rfl 164 _ _ rfl 3 g4 0 (by kernel_rfl) 20 165 (w64 (Mon.qj (Mon.pj q.dx.f q.dz.f) (Mon.pj (tzX2 (swQ q)).f (tzZ2 (swQ q)).f))) rfl 10 (w64 (Mon.pj (tzX3 (swQ q)).f (tzZ3 (swQ q) e).f)) (w64 (Mon.qj (Mon.pj (tzX3 (swQ q)).f (tzZ3 (swQ q) e).f) (Mon.pj (tzX2 (swQ q)).f (tzZ2 (swQ q)).f))) (by kernel_rfl) inz164 (by decide) (fun _ _ => rfl) (fun j hj => qq_0 _ _ _ j hj) fun u12 M => ?_
    replace M := M.nf
    refine nT <| au_block <| au_then <| rg_lit <| zW 40 ((j : Int) + 1) <| rV 1 <| nT ?_
    have e0 : Mon.ladF s e (j + 1) = ⟨tzX3 (swQ q), tzZ3 (swQ q) e, tzX2 (swQ q), tzZ2 (swQ q)⟩ := by
     show (if Mon.bit s (254 - j) = 0 then _ else _) = _
     rw [hp, if_neg c0, hqe]
     rfl
    exact exS (by rw [e0]; exact M)
 ·intro a u0 hI
  obtain ⟨v1, rfl, M⟩ := hI
  refine sR <| ZF 17 ((255 : Int) < 255) <| nT <| wp_seq <| cF <| wp_exit <| au_then_exit <| au_then_exit <| au_block_exit <| au_then <| wp_seq <| rgh M [⟨g1, .cells (av 5 (w64 e.f)) 143⟩, ⟨g2, .cells (av 5 (w64 (fun _ => 0))) 143⟩, ⟨g3, .cells (av 5 (w64 (Mon.smallF 1).f)) 143⟩, ⟨g4, .cells (av 20 (w64 (Mon.qj (Mon.pj (Mon.ladF s e 255).dx.f (Mon.ladF s e 255).dz.f) (Mon.pj (Mon.ladF s e 255).px.f (Mon.ladF s e 255).pz.f)))) 165⟩] 8 fun u8 M => ?_
  replace M := M.nf
  refine qV M 0 41 (.pointer (some ⟨g4, 0, none⟩)) <| qV M 1 42 (.pointer (some ⟨g4, 0, none⟩)) <| qL M 2 43 3 0 5 (w64 (Mon.ladF s e 255).dx.f) (fun j hj => qp_0 _ _ _ j hj) <| qV M 3 44 (.pointer (some ⟨g4, 0, none⟩)) <| qV M 4 45 (.pointer (some ⟨g4, 5, none⟩)) <| qL M 5 46 3 5 5 (w64 (Mon.ladF s e 255).dz.f) (fun j hj => qp_1 _ _ _ j hj) <| qO 6 ?_
  refine pD M 47 (.agg (av 5 (w64 (Mon.invF (Mon.ladF s e 255).dz).f))) (fun w M => Mon.inv_any (Mon.ladF s e 255).dz w (Mon.ladF_ok s hx 255).dz) fun u9 M => nT ?_
  refine ⟨M, ?_⟩
  refine qO 7 ?_
  refine pD M 48 (.agg (av 5 (w64 (Mon.mulF (Mon.ladF s e 255).dx (Mon.invF (Mon.ladF s e 255).dz)).f))) (fun w M => Mon.mul_any (Mon.ladF s e 255).dx (Mon.invF (Mon.ladF s e 255).dz) w (Mon.ladF_ok s hx 255).dx (Mon.invF_ok (Mon.ladF_ok s hx 255).dz)) fun u10 M => nT ?_
  refine ⟨M, ?_⟩
  refine qZ ?_
  refine ZG M 1 5 (w64 (Mon.mulF (Mon.ladF s e 255).dx (Mon.invF (Mon.ladF s e 255).dz)).f) fun u11 M => ?_
  replace M := M.nf
  refine nT <| au_then <| wp_ret ?_
  exact bc Tryz.results93 M 1 5 (w64 (Mon.mulF (Mon.ladF s e 255).dx (Mon.invF (Mon.ladF s e 255).dz)).f) ⟨rfl, below_grown M.old⟩
open Go.RowKit
section
variable (q : Mon.RS)
def yA : Int := (q.x2 + q.z2) % Mon.Pm
def yAA : Int := yA q * yA q % Mon.Pm
def yD : Int := (q.x2 - q.z2) % Mon.Pm
def yDD : Int := yD q * yD q % Mon.Pm
def yE : Int := (yAA q - yDD q) % Mon.Pm
def yU : Int := (q.x3 - q.z3) % Mon.Pm
def yDA : Int := yU q * yA q % Mon.Pm
def yV : Int := (q.x3 + q.z3) % Mon.Pm
def yCB : Int := yV q * yD q % Mon.Pm
def yS : Int := (yDA q + yCB q) % Mon.Pm
def yT : Int := (yDA q - yCB q) % Mon.Pm
def yTT : Int := yT q * yT q % Mon.Pm
def yX3 : Int := yS q * yS q % Mon.Pm
def yX2 : Int := yAA q * yDD q % Mon.Pm
def yF : Int := 121665 * yE q % Mon.Pm
def yG : Int := (yAA q + yF q) % Mon.Pm
def yZ2 : Int := yE q * yG q % Mon.Pm
def yZ3 (x : Int) : Int := x * yTT q % Mon.Pm
end
abbrev nF (X : Int) : Nat → Value := w64 (Mon.d16 X)
abbrev BdP (X : Int) : Prop := 0 ≤ X ∧ X < Mon.Pm
section
variable {X Y : Int}
theorem l_add (hx : BdP X) (hy : BdP Y) (w : World) : Cs 57 #[.agg (av 16 (nF X)), .agg (av 16 (nF Y))] w (.agg (av 16 (nF ((X + Y) % Mon.Pm)))) := by
 have h := Mon.radd_any (Mon.d16 X) (Mon.d16 Y) w (Mon.d16_dig _ 16) (Mon.d16_dig _ 16)
 rwa [Mon.dSP hx, Mon.dSP hy] at h
theorem l_sub (hx : BdP X) (hy : BdP Y) (w : World) : Cs 59 #[.agg (av 16 (nF X)), .agg (av 16 (nF Y))] w (.agg (av 16 (nF ((X - Y) % Mon.Pm)))) := by
 have h := Mon.rsub_any (Mon.d16 X) (Mon.d16 Y) w (Mon.d16_dig _ 16) (Mon.d16_dig _ 16) (by rw [Mon.dSP hy]; exact hy.2)
 rwa [Mon.dSP hx, Mon.dSP hy] at h
theorem l_mul (hx : BdP X) (hy : BdP Y) (w : World) : Cs 58 #[.agg (av 16 (nF X)), .agg (av 16 (nF Y))] w (.agg (av 16 (nF (X * Y % Mon.Pm)))) := by
 have h := Mon.rmul_any (Mon.d16 X) (Mon.d16 Y) w (Mon.d16_dig _ 16) (Mon.d16_dig _ 16)
 rwa [Mon.dSP hx, Mon.dSP hy] at h
theorem l_inv (hx : BdP X) (w : World) : Cs 60 #[.agg (av 16 (nF X))] w (.agg (av 16 (nF (Mon.pwm X (Mon.xbit 255 21) 255)))) := by
 have h := Mon.rinv_any (Mon.d16 X) w (Mon.d16_dig _ 16)
 rwa [Mon.dSP hx] at h
end
theorem l_small (n : Int) (w : World) (h0 : 0 ≤ n) (h1 : n < 4294967296) : Cs 56 #[.int .u32 n] w (.agg (av 16 (nF n))) := Mon.rsmall_any n w h0 h1
theorem l_bytes (X : Int) (w : World) (hL : Laid w) : Cs 61 #[.agg (av 16 (nF X))] w (.string (Mon.bs (Mon.rb (Mon.d16 X) 32))) := l_rbytes _ (Mon.d16_dig _ 16) w hL
theorem l_of {u : Yb} {x : Int} (h : Mon.val (Mon.mkS u) % Mon.Pm = x) (w : World) (hL : Laid w) : Cs 55 #[.string (Mon.mkS u)] w (.agg (av 16 (nF x))) := by
 subst h
 exact l_rof (Mon.mkS u) (Mon.mkS_size u) w hL
theorem l_clamp {s K : Yb} (h : Mon.clS s = K) (hs : s.size = 32) (w : World) : Cs 54 #[.string s] w (.string K) := h ▸ Mon.rclamp_yes s w hs
theorem run_shr8 {P : Program} {a : Act} {o : Oper} (t rt : TypeId) (x y : Operand) (ho : o.op = .binOp .shr t x y rt) (k : Int) (ky : IntKind) (m : Nat) (hx : a.eval x = .int .u8 k) (hy : a.eval y = .int ky (m : Int)) (_hm : m ≤ 8) (w : World) :
  (execOp a.eval o).run P w = .ok (.value (.int .u8 (k / 2 ^ m))) w := by
 unfold execOp
 simp [ho, hx, hy, eqGuard, binOp]
theorem run_remM {P : Program} {a : Act} {o : Oper} (t rt : TypeId) (x y : Operand) (ho : o.op = .binOp .rem t x y rt) (m d : Nat) (hx : a.eval x = .int .i64 (m : Int)) (hy : a.eval y = .int .i64 (d : Int)) (hd : 0 < d) (w : World) :
  (execOp a.eval o).run P w = .ok (.value (.int .i64 ((m % d : Nat) : Int))) w := by
 have h0 : ¬ d = 0 := by omega
 have e : Int.tmod (m : Int) (d : Int) = (m : Int) % (d : Int) := rfl
 unfold execOp
 simp [ho, hx, hy, eqGuard, binOp, Op.intDiv, h0, e]
theorem quo8 (j : Nat) (hj : j < 1000000) : IntKind.wrap .i64 ((j : Int).tdiv 8) = ((j / 8 : Nat) : Int) := by
 rw [Int.tdiv_eq_ediv_of_nonneg (by omega), wrap64 (by omega) (by omega)]
 omega
theorem mk_set {u : Yb} (h : u.size = 32) : bs ((sb u).set 31 (bits .and .u8 (bt u 31) 127)) = Mon.mkS u := by
 show _ = bs ((List.range 32).map (Mon.mkF u))
 congr 1
 apply List.ext_getElem?
 intro i
 rw [List.getElem?_set, List.getElem?_map, sb_length, h]
 by_cases h31 : 31 = i
 ·subst h31
  simp [Mon.mkF, Mon.upd]
  rfl
 ·rw [if_neg h31]
  by_cases hi : i < 32
  ·rw [sb_get u i (by omega), List.getElem?_range hi]
   simp [Mon.mkF, Mon.upd, Ne.symm h31]
   rfl
  ·rw [List.getElem?_eq_none (by rw [sb_length]; omega), List.getElem?_eq_none (by rw [List.length_range]; omega)]
   rfl
theorem wrapU {x : Int} (h0 : 0 ≤ x) (h1 : x < 18446744073709551616) : IntKind.wrap .u64 x = x := by
 unfold IntKind.wrap
 simp [IntKind.bits, IntKind.signed]
 omega
theorem bd127 (x : Int) : 0 ≤ bits .and .u8 x 127 ∧ bits .and .u8 x 127 < 256 := cv8_nn _
theorem bit_eq (K : Yb) (p : Nat) : bits .and .u8 (bt K (p / 8) / 2 ^ (p % 8)) 1 = Mon.bit K p := by
 have h := bt_nn K (p / 8)
 have h2 : bt K (p / 8) / 2 ^ (p % 8) ≤ bt K (p / 8) := Int.ediv_le_self _ h.1
 have h3 : 0 ≤ bt K (p / 8) / 2 ^ (p % 8) := Int.ediv_nonneg h.1 (Int.le_of_lt (Int.pow_pos (by decide)))
 exact Mon.and1u h3 (by omega)
theorem l_ladder (sec u K : Yb) (x1 : Int) (hsec : sec.size = 32) (hu : u.size = 32) (hK : Mon.clS sec = K) (h1 : Mon.val (Mon.mkS u) % Mon.Pm = x1) (w : World) (hL : Laid w)  : Cs 30 #[.string sec, .string u] w (.string (Mon.bs (Mon.rb (Mon.d16 ((Mon.rladF K x1 255).x2 * Mon.pwm (Mon.rladF K x1 255).z2 (Mon.xbit 255 21) 255 % Mon.Pm)) 32))) := by
 go_enter Tryz.func30, Tryz.ntmps30
 have M := Mem.start hL
 have hX : BdP x1 := h1 ▸ Mon.pmod _
 have hKs : K.size = 32 := hK ▸ Mon.clS_size sec
 refine sq <| sR <| rV 1 <| pD M 24 (.string K) (fun w M => l_clamp hK hsec w) fun u1 M => rV 1 <| nT <| sR <| rV 1 <| pl_conv M (want_no rfl) (some 26) rfl _ rfl u (by kernel_rfl) ?_
 intro g1 cpg1 Zg1 u2 hZg1 M
 replace M := M.nf
 refine rV 1 <| nT <| sR <| rV 2 <| pH 29 (.pointer (some ⟨g1, 31, none⟩)) (run_ix0 44 5 Tryz.underlying44 inz5 _ _ rfl g1 u.size cpg1 (by kernel_rfl) .i64 31 (by kernel_rfl) (by omega)) ?_
 refine pE M 30 g1 31 (.int .u8 (bt u 31)) (fun w M => hZg1.cell (M.get 0 rfl) (by unfold vs8; rw [List.getElem?_map, sb_get _ _ (by omega)]; rfl)) ?_
 refine rV 1 <| pH 32 (.pointer (some ⟨g1, 31, none⟩)) (run_ix0 44 5 Tryz.underlying44 inz5 _ _ rfl g1 u.size cpg1 (by kernel_rfl) .i64 31 (by kernel_rfl) (by omega)) <| pl_putS M (want_no rfl) rfl 5 _ _ rfl 0 g1 31 (by kernel_rfl) _ rfl cpg1 _ hZg1 (by rw [vs8_length, sb_length]; omega) (.int .u8 (bits .and .u8 (bt u 31) 127)) (by kernel_rfl) inz5 rfl rfl ?_
 intro ZA u3 hZA M
 rw [show (vs8 (sb u)).set 31 (.int .u8 (bits .and .u8 (bt u 31) 127)) = vs8 ((sb u).set 31 (bits .and .u8 (bt u 31) 127)) by unfold vs8; rw [List.map_set]] at hZA
 replace M := M.nf
 refine nT <| sR <| rV 1 <| pl_back M (want_no rfl) (some 34) rfl _ rfl 0 g1 u.size cpg1 (by kernel_rfl) _ rfl ((sb u).set 31 (bits .and .u8 (bt u 31) 127)) cpg1 hZA (by rw [List.length_set, sb_length]) (fun y hy => by rcases List.mem_or_eq_of_mem_set hy with h | h; exact sb_nn u y h; rw [h]; exact bd127 _) ?_
 rw [mk_set hu]
 refine pD M 35 (.agg (av 16 (nF x1))) (fun w M => l_of h1 w M.laid) fun u4 M => pN M 7 (.cells (av 16 (w64 (fun _ => 0))) 108) fun g2 u5 M => ?_
 replace M := M.nf
 refine ZG M 1 16 (nF x1) fun u6 M => ?_
 replace M := M.nf
 refine nT <| sR <| pD M 36 (.agg (av 16 (nF 1))) (fun w M => l_small 1 w (by decide) (by decide)) fun u7 M => pN M 8 (.cells (av 16 (w64 (fun _ => 0))) 108) fun g3 u8 M => ?_
 replace M := M.nf
 refine ZG M 2 16 (nF 1) fun u9 M => ?_
 replace M := M.nf
 refine nT <| sR <| rV 1 <| pN M 9 (.cells (av 16 (w64 (fun _ => 0))) 108) fun g4 u10 M => ?_
 replace M := M.nf
 refine ZG M 3 16 (nF 0) fun u11 M => ?_
 replace M := M.nf
 refine nT <| sR <| pB M 38 1 <| pN M 10 (.cells (av 16 (w64 (fun _ => 0))) 108) fun g5 u12 M => ?_
 replace M := M.nf
 refine ZG M 4 16 (nF x1) fun u13 M => ?_
 replace M := M.nf
 refine nT <| sR <| pD M 39 (.agg (av 16 (nF 1))) (fun w M => l_small 1 w (by decide) (by decide)) fun u14 M => pN M 11 (.cells (av 16 (w64 (fun _ => 0))) 108) fun g6 u15 M => ?_
 replace M := M.nf
 refine ZG M 5 16 (nF 1) fun u16 M => ?_
 replace M := M.nf
 refine nT <| wp_seq <| sq <| wp_block ?_
 refine au_loop (fun j a w' => ∃ v1 : NV, a = (fm ([.string sec, .string u] ++ vr v1 2 2 ++ [.string ⟨#[]⟩, .string K, .slice (some ⟨g1, 0, none⟩) u.size cpg1, .pointer (some ⟨g2, 0, none⟩), .pointer (some ⟨g3, 0, none⟩), .pointer (some ⟨g4, 0, none⟩), .pointer (some ⟨g5, 0, none⟩), .pointer (some ⟨g6, 0, none⟩), .int .i64 (254 - ((j : Nat) : Int))] ++ vr v1 13 105)) ∧ Mem ⟨w, []⟩ [⟨g1, ZA⟩, ⟨g2, .cells (av 16 (nF x1)) 108⟩, ⟨g3, .cells (av 16 (nF (Mon.rladF K x1 j).x2)) 108⟩, ⟨g4, .cells (av 16 (nF (Mon.rladF K x1 j).z2)) 108⟩, ⟨g5, .cells (av 16 (nF (Mon.rladF K x1 j).x3)) 108⟩, ⟨g6, .cells (av 16 (nF (Mon.rladF K x1 j).z3)) 108⟩] w') 255 (exS M) ?_ ?_
 ·intro j a u0 hj hI
  obtain ⟨v1, rfl, M⟩ := hI
  obtain ⟨q, hqe⟩ : ∃ q, Mon.rladF K x1 j = q := ⟨_, rfl⟩
  have hq : q.Ok := hqe ▸ Mon.rladF_ok K hX j
  rw [hqe] at M
  obtain ⟨p, hp⟩ : ∃ p : Nat, 254 - j = p := ⟨_, rfl⟩
  have hpi : (254 : Int) - ((j : Nat) : Int) = (p : Int) := by omega
  rw [hpi]
  refine wp_seq <| sR <| rV 1 <| ZT 41 ((0 : Int) ≤ (p : Int)) <| nT <| cT <| wp_skip <| au_then <| wp_seq <| wp_block <| sR <| rV 2 <| ZQ 46 .i64 (IntKind.wrap .i64 ((p : Int).tdiv 8)) (quo8 p (by omega)) <| pH 47 (.int .u8 (bt K (p / 8))) (run_ixS 9 Tryz.underlying9 _ _ rfl K (by kernel_rfl) .i64 (p / 8) (by kernel_rfl) (by omega)) <| rV 1 <| pH 49 (.int .i64 ((p % 8 : Nat) : Int)) (run_remM 3 3 _ _ rfl p 8 (by kernel_rfl) (by kernel_rfl) (by decide)) ?_
  refine zJ 50 (.int .u64 ((p % 8 : Nat) : Int)) (.int .u64 (IntKind.wrap .u64 ((p % 8 : Nat) : Int))) (by rw [show IntKind.wrap .u64 ((p % 8 : Nat) : Int) = ((p % 8 : Nat) : Int) from wrapU (by omega) (by omega)]) <| pH 51 (.int .u8 (bt K (p / 8) / 2 ^ (p % 8))) (run_shr8 5 106 _ _ rfl (bt K (p / 8)) .u64 (p % 8) (by kernel_rfl) (by kernel_rfl) (by omega)) <| rV 1 ?_
  by_cases c0 : (Mon.bit K p) = 0
  ·refine zJ 53 (.bool false) (.bool (decide (bits .and .u8 (bt K (p / 8) / 2 ^ (p % 8)) 1 = 1))) (by rw [bit_eq, decide_eq_false (by have := Mon.bit_two K p; omega)]) <| rV 1 <| nT <| wp_seq <| sq <| cF <| wp_skip <| au_then <| sR <| pB M 59 2 <| pB M 60 3 <| pD M 61 (.agg (av 16 (nF (yA q)))) (fun w M => l_add hq.x2 hq.z2 w) fun u17 M => pN M 14 (.cells (av 16 (w64 (fun _ => 0))) 108) fun g7 u18 M => ?_
   replace M := M.nf
   refine ZG M 6 16 (nF (yA q)) fun u19 M => ?_
   replace M := M.nf
   refine nT <| sR <| pB M 62 6 <| pB M 63 6 <| pC M 64 58 #[.agg (av 16 (nF (yA q))), .agg (av 16 (nF (yA q)))] (.agg (av 16 (nF (yAA q)))) (fun w M => l_mul (Mon.pmod _) (Mon.pmod _) w) fun u20 M => pN M 15 (.cells (av 16 (w64 (fun _ => 0))) 108) fun g8 u21 M => ?_
   replace M := M.nf
   refine ZG M 7 16 (nF (yAA q)) fun u22 M => ?_
   replace M := M.nf
   refine nT <| sR <| pB M 65 2 <| pB M 66 3 <| pD M 67 (.agg (av 16 (nF (yD q)))) (fun w M => l_sub hq.x2 hq.z2 w) fun u23 M => pN M 16 (.cells (av 16 (w64 (fun _ => 0))) 108) fun g9 u24 M => ?_
   replace M := M.nf
   refine ZG M 8 16 (nF (yD q)) fun u25 M => ?_
   replace M := M.nf
   refine nT <| sR <| pB M 68 8 <| pB M 69 8 <| pC M 70 58 #[.agg (av 16 (nF (yD q))), .agg (av 16 (nF (yD q)))] (.agg (av 16 (nF (yDD q)))) (fun w M => l_mul (Mon.pmod _) (Mon.pmod _) w) fun u26 M => pN M 17 (.cells (av 16 (w64 (fun _ => 0))) 108) fun g10 u27 M => ?_
   replace M := M.nf
   refine ZG M 9 16 (nF (yDD q)) fun u28 M => ?_
   replace M := M.nf
   refine nT <| sR <| pB M 71 7 <| pB M 72 9 <| pC M 73 59 #[.agg (av 16 (nF (yAA q))), .agg (av 16 (nF (yDD q)))] (.agg (av 16 (nF (yE q)))) (fun w M => l_sub (Mon.pmod _) (Mon.pmod _) w) fun u29 M => pN M 18 (.cells (av 16 (w64 (fun _ => 0))) 108) fun g11 u30 M => ?_
   replace M := M.nf
   refine ZG M 10 16 (nF (yE q)) fun u31 M => ?_
   replace M := M.nf
   refine nT <| wp_seq <| rg_allocs M 5 [(19, fun g => .pointer (some ⟨g, 0, none⟩), .cells (av 16 (w64 (fun _ => 0))) 108)] (by kernel_rfl) (by kernel_rfl) (⟨rfl, rfl, fun _ _ => by kernel_rfl, trivial⟩) (by decide) ?_
   simp only [List.take_succ_cons, List.take_zero]
   refine kB M 74 4 <| kB M 75 5 <| kD M 76 (.agg (av 16 (nF (yU q)))) (fun w M => l_sub hq.x3 hq.z3 w) <| kB M 77 6 <| kC M 78 58 #[.agg (av 16 (nF (yU q))), .agg (av 16 (nF (yA q)))] (.agg (av 16 (nF (yDA q)))) (fun w M => l_mul (Mon.pmod _) (Mon.pmod _) w) <| kl_nil fun u32 g12 M => ?_
   replace M := M.nf
   refine ZG M 11 16 (nF (yDA q)) fun u33 M => ?_
   replace M := M.nf
   refine nT <| wp_seq <| rg_allocs M 5 [(20, fun g => .pointer (some ⟨g, 0, none⟩), .cells (av 16 (w64 (fun _ => 0))) 108)] (by kernel_rfl) (by kernel_rfl) (⟨rfl, rfl, fun _ _ => by kernel_rfl, trivial⟩) (by decide) ?_
   simp only [List.take_succ_cons, List.take_zero]
   refine kB M 79 4 <| kB M 80 5 <| kD M 81 (.agg (av 16 (nF (yV q)))) (fun w M => l_add hq.x3 hq.z3 w) <| kB M 82 8 <| kC M 83 58 #[.agg (av 16 (nF (yV q))), .agg (av 16 (nF (yD q)))] (.agg (av 16 (nF (yCB q)))) (fun w M => l_mul (Mon.pmod _) (Mon.pmod _) w) <| kl_nil fun u34 g13 M => ?_
   replace M := M.nf
   refine ZG M 12 16 (nF (yCB q)) fun u35 M => ?_
   replace M := M.nf
   refine nT <| sR <| pB M 84 11 <| pB M 85 12 <| pC M 86 57 #[.agg (av 16 (nF (yDA q))), .agg (av 16 (nF (yCB q)))] (.agg (av 16 (nF (yS q)))) (fun w M => l_add (Mon.pmod _) (Mon.pmod _) w) fun u36 M => pN M 21 (.cells (av 16 (w64 (fun _ => 0))) 108) fun g14 u37 M => ?_
   replace M := M.nf
   refine ZG M 13 16 (nF (yS q)) fun u38 M => ?_
   replace M := M.nf
   refine nT <| sR <| pB M 87 13 <| pB M 88 13 <| pC M 89 58 #[.agg (av 16 (nF (yS q))), .agg (av 16 (nF (yS q)))] (.agg (av 16 (nF (yX3 q)))) (fun w M => l_mul (Mon.pmod _) (Mon.pmod _) w) fun u39 M => ZG M 4 16 (nF (yX3 q)) fun u40 M => ?_
   replace M := M.nf
   refine nT <| sR <| pB M 90 11 <| pB M 91 12 <| pC M 92 59 #[.agg (av 16 (nF (yDA q))), .agg (av 16 (nF (yCB q)))] (.agg (av 16 (nF (yT q)))) (fun w M => l_sub (Mon.pmod _) (Mon.pmod _) w) fun u41 M => pN M 22 (.cells (av 16 (w64 (fun _ => 0))) 108) fun g15 u42 M => ?_
   replace M := M.nf
   refine ZG M 14 16 (nF (yT q)) fun u43 M => ?_
   replace M := M.nf
   refine nT <| wp_seq <| rg_tail M 5 (by kernel_rfl) (by kernel_rfl) ?_
   simp only [List.take_succ_cons, List.take_zero]
   refine kB M 93 1 <| kB M 94 14 <| kB M 95 14 <| kC M 96 58 #[.agg (av 16 (nF (yT q))), .agg (av 16 (nF (yT q)))] (.agg (av 16 (nF (yTT q)))) (fun w M => l_mul (Mon.pmod _) (Mon.pmod _) w) <| kC M 97 58 #[.agg (av 16 (nF x1)), .agg (av 16 (nF (yTT q)))] (.agg (av 16 (nF (yZ3 q x1)))) (fun w M => l_mul hX (Mon.pmod _) w) <| kl_nil fun u44 M => ?_
   replace M := M.nf
   refine ZG M 5 16 (nF (yZ3 q x1)) fun u45 M => ?_
   replace M := M.nf
   refine nT <| sR <| pB M 98 7 <| pB M 99 9 <| pC M 100 58 #[.agg (av 16 (nF (yAA q))), .agg (av 16 (nF (yDD q)))] (.agg (av 16 (nF (yX2 q)))) (fun w M => l_mul (Mon.pmod _) (Mon.pmod _) w) fun u46 M => ZG M 2 16 (nF (yX2 q)) fun u47 M => ?_
   replace M := M.nf
   refine nT <| wp_seq <| rg_tail M 7 (by kernel_rfl) (by kernel_rfl) ?_
   simp only [List.take_succ_cons, List.take_zero]
   refine kB M 101 10 <| kB M 102 7 <| kD M 103 (.agg (av 16 (nF 121665))) (fun w M => l_small 121665 w (by decide) (by decide)) <| kB M 104 10 <| kC M 105 58 #[.agg (av 16 (nF 121665)), .agg (av 16 (nF (yE q)))] (.agg (av 16 (nF (yF q)))) (fun w M => l_mul ⟨by decide, by decide⟩ (Mon.pmod _) w) <| kC M 106 57 #[.agg (av 16 (nF (yAA q))), .agg (av 16 (nF (yF q)))] (.agg (av 16 (nF (yG q)))) (fun w M => l_add (Mon.pmod _) (Mon.pmod _) w) <| kC M 107 58 #[.agg (av 16 (nF (yE q))), .agg (av 16 (nF (yG q)))] (.agg (av 16 (nF (yZ2 q)))) (fun w M => l_mul (Mon.pmod _) (Mon.pmod _) w) <| kl_nil fun u48 M => ?_
   replace M := M.nf
   refine ZG M 3 16 (nF (yZ2 q)) fun u49 M => ?_
   replace M := M.nf
   refine nT <| sq <| cF <| wp_skip <| au_block <| au_then <| rg_lit <| rV 1 <| ZI 43 ((p : Int) - 1) (254 - ((j + 1 : Nat) : Int)) <| rV 1 <| nT ?_
   have e0 : Mon.rladF K x1 (j + 1) = ⟨(yX2 q), (yZ2 q), (yX3 q), (yZ3 q x1)⟩ := by
    show (if Mon.bit K (254 - j) = 0 then _ else _) = _
    rw [hp, if_pos c0, hqe]
    rfl
   exact exS (by rw [e0]; exact M.drop (.cons_cons _ (.cons_cons _ (.cons_cons _ (.cons_cons _ (.cons_cons _ (.cons_cons _ (.cons _ (.cons _ (.cons _ (.cons _ (.cons _ (.cons _ (.cons _ (.cons _ (.cons _ (.slnil)))))))))))))))))
  ·refine zJ 53 (.bool true) (.bool (decide (bits .and .u8 (bt K (p / 8) / 2 ^ (p % 8)) 1 = 1))) (by rw [bit_eq, decide_eq_true (by have := Mon.bit_two K p; omega)]) <| rV 1 <| nT <| wp_seq <| sq <| cT <| sR <| pB M 55 4 <| pB M 56 2 <| ZG M 2 16 (nF q.x3) fun u17 M => ?_
   replace M := M.nf
   refine ZG M 4 16 (nF q.x2) fun u18 M => ?_
   replace M := M.nf
   refine nT <| rg_lit <| pB M 57 5 <| pB M 58 3 <| ZG M 3 16 (nF q.z3) fun u19 M => ?_
   replace M := M.nf
   refine ZG M 5 16 (nF q.z2) fun u20 M => ?_
   replace M := M.nf
   refine nT <| sR <| pB M 59 2 <| pB M 60 3 <| pD M 61 (.agg (av 16 (nF (yA q.swap)))) (fun w M => l_add hq.x3 hq.z3 w) fun u21 M => pN M 14 (.cells (av 16 (w64 (fun _ => 0))) 108) fun g7 u22 M => ?_
   replace M := M.nf
   refine ZG M 6 16 (nF (yA q.swap)) fun u23 M => ?_
   replace M := M.nf
   refine nT <| sR <| pB M 62 6 <| pB M 63 6 <| pC M 64 58 #[.agg (av 16 (nF (yA q.swap))), .agg (av 16 (nF (yA q.swap)))] (.agg (av 16 (nF (yAA q.swap)))) (fun w M => l_mul (Mon.pmod _) (Mon.pmod _) w) fun u24 M => pN M 15 (.cells (av 16 (w64 (fun _ => 0))) 108) fun g8 u25 M => ?_
   replace M := M.nf
   refine ZG M 7 16 (nF (yAA q.swap)) fun u26 M => ?_
   replace M := M.nf
   refine nT <| sR <| pB M 65 2 <| pB M 66 3 <| pD M 67 (.agg (av 16 (nF (yD q.swap)))) (fun w M => l_sub hq.x3 hq.z3 w) fun u27 M => pN M 16 (.cells (av 16 (w64 (fun _ => 0))) 108) fun g9 u28 M => ?_
   replace M := M.nf
   refine ZG M 8 16 (nF (yD q.swap)) fun u29 M => ?_
   replace M := M.nf
   refine nT <| sR <| pB M 68 8 <| pB M 69 8 <| pC M 70 58 #[.agg (av 16 (nF (yD q.swap))), .agg (av 16 (nF (yD q.swap)))] (.agg (av 16 (nF (yDD q.swap)))) (fun w M => l_mul (Mon.pmod _) (Mon.pmod _) w) fun u30 M => pN M 17 (.cells (av 16 (w64 (fun _ => 0))) 108) fun g10 u31 M => ?_
   replace M := M.nf
   refine ZG M 9 16 (nF (yDD q.swap)) fun u32 M => ?_
   replace M := M.nf
   refine nT <| sR <| pB M 71 7 <| pB M 72 9 <| pC M 73 59 #[.agg (av 16 (nF (yAA q.swap))), .agg (av 16 (nF (yDD q.swap)))] (.agg (av 16 (nF (yE q.swap)))) (fun w M => l_sub (Mon.pmod _) (Mon.pmod _) w) fun u33 M => pN M 18 (.cells (av 16 (w64 (fun _ => 0))) 108) fun g11 u34 M => ?_
   replace M := M.nf
   refine ZG M 10 16 (nF (yE q.swap)) fun u35 M => ?_
   replace M := M.nf
   refine nT <| wp_seq <| rg_allocs M 5 [(19, fun g => .pointer (some ⟨g, 0, none⟩), .cells (av 16 (w64 (fun _ => 0))) 108)] (by kernel_rfl) (by kernel_rfl) (⟨rfl, rfl, fun _ _ => by kernel_rfl, trivial⟩) (by decide) ?_
   simp only [List.take_succ_cons, List.take_zero]
   refine kB M 74 4 <| kB M 75 5 <| kD M 76 (.agg (av 16 (nF (yU q.swap)))) (fun w M => l_sub hq.x2 hq.z2 w) <| kB M 77 6 <| kC M 78 58 #[.agg (av 16 (nF (yU q.swap))), .agg (av 16 (nF (yA q.swap)))] (.agg (av 16 (nF (yDA q.swap)))) (fun w M => l_mul (Mon.pmod _) (Mon.pmod _) w) <| kl_nil fun u36 g12 M => ?_
   replace M := M.nf
   refine ZG M 11 16 (nF (yDA q.swap)) fun u37 M => ?_
   replace M := M.nf
   refine nT <| wp_seq <| rg_allocs M 5 [(20, fun g => .pointer (some ⟨g, 0, none⟩), .cells (av 16 (w64 (fun _ => 0))) 108)] (by kernel_rfl) (by kernel_rfl) (⟨rfl, rfl, fun _ _ => by kernel_rfl, trivial⟩) (by decide) ?_
   simp only [List.take_succ_cons, List.take_zero]
   refine kB M 79 4 <| kB M 80 5 <| kD M 81 (.agg (av 16 (nF (yV q.swap)))) (fun w M => l_add hq.x2 hq.z2 w) <| kB M 82 8 <| kC M 83 58 #[.agg (av 16 (nF (yV q.swap))), .agg (av 16 (nF (yD q.swap)))] (.agg (av 16 (nF (yCB q.swap)))) (fun w M => l_mul (Mon.pmod _) (Mon.pmod _) w) <| kl_nil fun u38 g13 M => ?_
   replace M := M.nf
   refine ZG M 12 16 (nF (yCB q.swap)) fun u39 M => ?_
   replace M := M.nf
   refine nT <| sR <| pB M 84 11 <| pB M 85 12 <| pC M 86 57 #[.agg (av 16 (nF (yDA q.swap))), .agg (av 16 (nF (yCB q.swap)))] (.agg (av 16 (nF (yS q.swap)))) (fun w M => l_add (Mon.pmod _) (Mon.pmod _) w) fun u40 M => pN M 21 (.cells (av 16 (w64 (fun _ => 0))) 108) fun g14 u41 M => ?_
   replace M := M.nf
   refine ZG M 13 16 (nF (yS q.swap)) fun u42 M => ?_
   replace M := M.nf
   refine nT <| sR <| pB M 87 13 <| pB M 88 13 <| pC M 89 58 #[.agg (av 16 (nF (yS q.swap))), .agg (av 16 (nF (yS q.swap)))] (.agg (av 16 (nF (yX3 q.swap)))) (fun w M => l_mul (Mon.pmod _) (Mon.pmod _) w) fun u43 M => ZG M 4 16 (nF (yX3 q.swap)) fun u44 M => ?_
   replace M := M.nf
   refine nT <| sR <| pB M 90 11 <| pB M 91 12 <| pC M 92 59 #[.agg (av 16 (nF (yDA q.swap))), .agg (av 16 (nF (yCB q.swap)))] (.agg (av 16 (nF (yT q.swap)))) (fun w M => l_sub (Mon.pmod _) (Mon.pmod _) w) fun u45 M => pN M 22 (.cells (av 16 (w64 (fun _ => 0))) 108) fun g15 u46 M => ?_
   replace M := M.nf
   refine ZG M 14 16 (nF (yT q.swap)) fun u47 M => ?_
   replace M := M.nf
   refine nT <| wp_seq <| rg_tail M 5 (by kernel_rfl) (by kernel_rfl) ?_
   simp only [List.take_succ_cons, List.take_zero]
   refine kB M 93 1 <| kB M 94 14 <| kB M 95 14 <| kC M 96 58 #[.agg (av 16 (nF (yT q.swap))), .agg (av 16 (nF (yT q.swap)))] (.agg (av 16 (nF (yTT q.swap)))) (fun w M => l_mul (Mon.pmod _) (Mon.pmod _) w) <| kC M 97 58 #[.agg (av 16 (nF x1)), .agg (av 16 (nF (yTT q.swap)))] (.agg (av 16 (nF (yZ3 q.swap x1)))) (fun w M => l_mul hX (Mon.pmod _) w) <| kl_nil fun u48 M => ?_
   replace M := M.nf
   refine ZG M 5 16 (nF (yZ3 q.swap x1)) fun u49 M => ?_
   replace M := M.nf
   refine nT <| sR <| pB M 98 7 <| pB M 99 9 <| pC M 100 58 #[.agg (av 16 (nF (yAA q.swap))), .agg (av 16 (nF (yDD q.swap)))] (.agg (av 16 (nF (yX2 q.swap)))) (fun w M => l_mul (Mon.pmod _) (Mon.pmod _) w) fun u50 M => ZG M 2 16 (nF (yX2 q.swap)) fun u51 M => ?_
   replace M := M.nf
   refine nT <| wp_seq <| rg_tail M 7 (by kernel_rfl) (by kernel_rfl) ?_
   simp only [List.take_succ_cons, List.take_zero]
   refine kB M 101 10 <| kB M 102 7 <| kD M 103 (.agg (av 16 (nF 121665))) (fun w M => l_small 121665 w (by decide) (by decide)) <| kB M 104 10 <| kC M 105 58 #[.agg (av 16 (nF 121665)), .agg (av 16 (nF (yE q.swap)))] (.agg (av 16 (nF (yF q.swap)))) (fun w M => l_mul ⟨by decide, by decide⟩ (Mon.pmod _) w) <| kC M 106 57 #[.agg (av 16 (nF (yAA q.swap))), .agg (av 16 (nF (yF q.swap)))] (.agg (av 16 (nF (yG q.swap)))) (fun w M => l_add (Mon.pmod _) (Mon.pmod _) w) <| kC M 107 58 #[.agg (av 16 (nF (yE q.swap))), .agg (av 16 (nF (yG q.swap)))] (.agg (av 16 (nF (yZ2 q.swap)))) (fun w M => l_mul (Mon.pmod _) (Mon.pmod _) w) <| kl_nil fun u52 M => ?_
   replace M := M.nf
   refine ZG M 3 16 (nF (yZ2 q.swap)) fun u53 M => ?_
   replace M := M.nf
   refine nT <| sq <| cT <| sR <| pB M 109 4 <| pB M 110 2 <| ZG M 2 16 (nF (yX3 q.swap)) fun u54 M => ?_
   replace M := M.nf
   refine ZG M 4 16 (nF (yX2 q.swap)) fun u55 M => ?_
   replace M := M.nf
   refine nT <| rg_lit <| pB M 111 5 <| pB M 112 3 <| ZG M 3 16 (nF (yZ3 q.swap x1)) fun u56 M => ?_
   replace M := M.nf
   refine ZG M 5 16 (nF (yZ2 q.swap)) fun u57 M => ?_
   replace M := M.nf
   refine pl_nil <| au_block <| au_then <| rg_lit <| rV 1 <| ZI 43 ((p : Int) - 1) (254 - ((j + 1 : Nat) : Int)) <| rV 1 <| nT ?_
   have e0 : Mon.rladF K x1 (j + 1) = ⟨(yX3 q.swap), (yZ3 q.swap x1), (yX2 q.swap), (yZ2 q.swap)⟩ := by
    show (if Mon.bit K (254 - j) = 0 then _ else _) = _
    rw [hp, if_neg c0, hqe]
    rfl
   exact exS (by rw [e0]; exact M.drop (.cons_cons _ (.cons_cons _ (.cons_cons _ (.cons_cons _ (.cons_cons _ (.cons_cons _ (.cons _ (.cons _ (.cons _ (.cons _ (.cons _ (.cons _ (.cons _ (.cons _ (.cons _ (.slnil)))))))))))))))))
 ·intro a u0 hI
  obtain ⟨v1, rfl, M⟩ := hI
  refine wp_seq <| sR <| rV 1 <| ZF 41 ((0 : Int) ≤ (254 - ((255 : Nat) : Int))) <| nT <| cF <| wp_exit <| au_then_exit <| au_then_exit <| au_block_exit <| au_then <| wp_seq <| rg_tail M 5 (by kernel_rfl) (by kernel_rfl) ?_
  simp only [List.take_succ_cons, List.take_zero]
  refine kB M 113 2 <| kB M 114 3 <| kD M 115 (.agg (av 16 (nF (Mon.pwm (Mon.rladF K x1 255).z2 (Mon.xbit 255 21) 255)))) (fun w M => l_inv (Mon.rladF_ok K hX 255).z2 w) <| kC M 116 58 #[.agg (av 16 (nF (Mon.rladF K x1 255).x2)), .agg (av 16 (nF (Mon.pwm (Mon.rladF K x1 255).z2 (Mon.xbit 255 21) 255)))] (.agg (av 16 (nF ((Mon.rladF K x1 255).x2 * (Mon.pwm (Mon.rladF K x1 255).z2 (Mon.xbit 255 21) 255) % Mon.Pm)))) (fun w M => l_mul (Mon.rladF_ok K hX 255).x2 (Mon.pwm_bd _ _ _) w) <| kD M 117 (.string (Mon.bs (Mon.rb (Mon.d16 ((Mon.rladF K x1 255).x2 * (Mon.pwm (Mon.rladF K x1 255).z2 (Mon.xbit 255 21) 255) % Mon.Pm)) 32))) (fun w M => l_bytes ((Mon.rladF K x1 255).x2 * (Mon.pwm (Mon.rladF K x1 255).z2 (Mon.xbit 255 21) 255) % Mon.Pm) w M.laid) <| kl_nil fun u17 M => ?_
  replace M := M.nf
  refine rV 1 <| nT <| wp_ret ?_
  exact b1 M
open Go.RowKit
theorem quo8L (j : Nat) (hj : j < 1000000) : IntKind.wrap .i64 ((j : Int).tdiv 8) = ((j / 8 : Nat) : Int) := by
 rw [Int.tdiv_eq_ediv_of_nonneg (by omega), wrap64 (by omega) (by omega)]
 omega
theorem sw_or (s : Yb) (m r : Nat) (hr : r < 8) : uo (Mon.sw s m r) (sl (cv .u64 (bt s (8 * m + r))) (r * 8)) = Mon.sw s m (r + 1) := by
 have hb := bt_nn s (8 * m + r)
 have hs := Mon.sw_bd s m r
 have e : cv .u64 (bt s (8 * m + r)) = bt s (8 * m + r) := wrapL hb.1 (by omega)
 have e2 : (2 : Int) ^ (r * 8) = 256 ^ r := by rw [Nat.mul_comm, Int.pow_mul]; rfl
 have h7 : (256 : Int) ^ r ≤ 72057594037927936 := by
  rcases (by omega : r = 0 ∨ r = 1 ∨ r = 2 ∨ r = 3 ∨ r = 4 ∨ r = 5 ∨ r = 6 ∨ r = 7) with rfl | rfl | rfl | rfl | rfl | rfl | rfl | rfl <;> decide
 have h0 : (0 : Int) < 256 ^ r := Int.pow_pos (by decide)
 have h8 : bt s (8 * m + r) * 256 ^ r ≤ 255 * 72057594037927936 := Int.mul_le_mul (by omega) h7 (Int.le_of_lt h0) (by decide)
 have h9 : 0 ≤ bt s (8 * m + r) * 256 ^ r := Int.mul_nonneg hb.1 (Int.le_of_lt h0)
 rw [e]
 unfold sl
 rw [e2, wrapL h9 (by omega)]
 have e3 : ((256 ^ r : Nat) : Int) = 256 ^ r := by norm_cast
 exact (Mon.or_join' (r * 8) (256 ^ r) (by rw [Nat.mul_comm, Nat.pow_mul]) ⟨hs.1, by omega⟩ ⟨h9, by omega⟩ (by rw [e3]; exact Int.mul_emod_left _ _) (by rw [e3]; exact hs.2)).trans rfl
theorem sw_nx (s : Yb) {j : Nat} : upd (Mon.swk s j) (j / 8) (uo (Mon.swk s j (j / 8)) (sl (cv .u64 (bt s j)) (j % 8 * 8))) = Mon.swk s (j + 1) := by
 obtain ⟨m, r, hr, rfl⟩ : ∃ m r, r < 8 ∧ j = 8 * m + r := ⟨j / 8, j % 8, by omega, by omega⟩
 rw [show (8 * m + r) / 8 = m by omega, show (8 * m + r) % 8 = r by omega, show Mon.swk s (8 * m + r) m = Mon.sw s m r by unfold Mon.swk; rw [show min (8 * m + r - 8 * m) 8 = r by omega], sw_or s m r hr]
 funext i
 unfold upd Mon.swk
 by_cases h : i = m
 ·subst h
  rw [if_pos rfl, show min (8 * i + r + 1 - 8 * i) 8 = r + 1 by omega]
 ·rw [if_neg h]
  congr 1
  omega
theorem sw_z (s : Yb) : Mon.swk s 0 = fun _ => 0 := by
 funext i
 unfold Mon.swk
 rw [show min (0 - 8 * i) 8 = 0 by omega]
 rfl
theorem l_words (s : Yb) (hs : s.size = 32) (w : World) (hL : Laid w)  : Cs 146 #[.string s] w (.agg (av 4 (w64 (Mon.swk s 32)))) := by
 go_enter Tryz.func146, Tryz.ntmps146
 have M := Mem.start hL
 refine sR <| pN M 2 (.cells (av 4 (w64 (fun _ => 0))) 173) fun g1 u1 M => ?_
 replace M := M.nf
 refine nT <| sR <| pN M 3 (.cells (av 4 (w64 (fun _ => 0))) 173) fun g2 u2 M => ?_
 replace M := M.nf
 refine nT <| wp_seq <| sq <| wp_block ?_
 refine au_loop (fun j a w' => ∃ v1 : NV, a = (fm ([.string s, v1 1, .pointer (some ⟨g1, 0, none⟩), .pointer (some ⟨g2, 0, none⟩), v1 4, .int .i64 (j : Int)] ++ vr v1 6 18)) ∧ Mem ⟨w, []⟩ [⟨g1, .cells (av 4 (w64 (fun _ => 0))) 173⟩, ⟨g2, .cells (av 4 (w64 (Mon.swk s j))) 173⟩] w') 32 (exS (by rw [sw_z]; exact M)) ?_ ?_
 ·intro j a u0 hj hI
  obtain ⟨v1, rfl, M⟩ := hI
  refine sR <| ZT 6 ((j : Int) < 32) <| nT <| wp_seq <| cT <| wp_skip <| au_then <| wp_seq <| wp_block <| sq <| rgh M [⟨g1, .cells (av 4 (w64 (fun _ => 0))) 173⟩, ⟨g2, .cells (av 4 (w64 (Mon.swk s j))) 173⟩] 14 fun u3 M => ?_
  replace M := M.nf
  refine qV M 0 8 (.int .i64 (j : Int)) <| qH M 1 9 (.int .i64 ((j / 8 : Nat) : Int)) (fun w _ => (fun w => Eq.trans (b := .ok (.value (.int .i64 (IntKind.wrap .i64 ((j : Int).tdiv 8)))) w) (by kernel_rfl) (by rw [quo8L j (by omega)])) w) <| qH M 2 10 (.pointer (some ⟨g2, ((j / 8 : Nat)), none⟩)) (fun w _ => (run_ix1 173 4 33 Tryz.underlying173 inz33 _ _ rfl g2 (by kernel_rfl) .i64 ((j / 8 : Nat)) (by kernel_rfl) (by omega)) w) <| qE M 3 11 1 ((j / 8 : Nat)) <| qV M 4 12 (.string s) <| qV M 5 13 (.int .i64 (j : Int)) <| qH M 6 14 (.int .u8 (bt s j)) (fun w _ => (run_ixS 9 Tryz.underlying9 _ _ rfl s (by kernel_rfl) .i64 j (by kernel_rfl) (by omega)) w) <| qV M 7 15 (.int .u64 (cv .u64 (bt s j))) <| qV M 8 16 (.int .i64 (j : Int)) <| qH M 9 17 (.int .i64 ((j % 8 : Nat) : Int)) (fun w _ => (run_remL 3 3 _ _ rfl j 8 (by kernel_rfl) (by kernel_rfl) (by decide)) w) ?_
  refine qH M 10 18 (.int .i64 ((j % 8 * 8 : Nat) : Int)) (fun w _ => (fun w => Eq.trans (b := .ok (.value (.int .i64 (IntKind.wrap .i64 (((j % 8 : Nat) : Int) * 8)))) w) (by kernel_rfl) (by rw [wrap64 (by omega) (by omega)]; rfl)) w) ?_
  refine qH M 11 19 (.int .u64 (sl (cv .u64 (bt s j)) (j % 8 * 8))) (fun w _ => (Pol.run_shlU 33 3 _ _ rfl _ .i64 (j % 8 * 8) (by kernel_rfl) (by kernel_rfl) (by omega)) w) <| qV M 12 20 (.int .u64 (uo ((Mon.swk s j) ((j / 8 : Nat))) (sl (cv .u64 (bt s j)) (j % 8 * 8)))) <| qH M 13 21 (.pointer (some ⟨g2, ((j / 8 : Nat)), none⟩)) (fun w _ => (run_ix1 173 4 33 Tryz.underlying173 inz33 _ _ rfl g2 (by kernel_rfl) .i64 ((j / 8 : Nat)) (by kernel_rfl) (by omega)) w) <| qZ ?_
  refine ZP64 M 1 ((j / 8 : Nat)) (uo ((Mon.swk s j) ((j / 8 : Nat))) (sl (cv .u64 (bt s j)) (j % 8 * 8))) fun u4 M => ?_
  replace M := M.nf
  refine nT <| au_block <| au_then <| rg_lit <| ZI 22 ((j : Int) + 1) ((j + 1 : Nat) : Int) <| rV 1 <| nT ?_
  rw [sw_nx s] at M
  exact exS M
 ·intro a u0 hI
  obtain ⟨v1, rfl, M⟩ := hI
  refine sR <| ZF 6 ((32 : Int) < 32) <| nT <| wp_seq <| cF <| wp_exit <| au_then_exit <| au_then_exit <| au_block_exit <| au_then <| sR <| pB M 23 1 <| ZG M 0 4 (w64 (Mon.swk s 32)) fun u3 M => ?_
  replace M := M.nf
  refine nT <| wp_ret ?_
  exact bc Tryz.results146 M 0 4 (w64 (Mon.swk s 32)) ⟨rfl, below_grown M.old⟩
theorem l_num (s : Yb) (w : World) : Cs 147 #[.agg (av 4 (w64 (Mon.swk s 32)))] w (.agg (av 5 (w64 (Mon.ofF s).f))) := Mon.number_any (Mon.sw s 0 8) (Mon.sw s 1 8) (Mon.sw s 2 8) (Mon.sw s 3 8) w (Mon.sw64 s 0) (Mon.sw64 s 1) (Mon.sw64 s 2) (Mon.sw64 s 3)
theorem l_ofN (u : Yb) (hu : u.size = 32) (w : World) (hL : Laid w)  : Cs 114 #[.string u] w (.tuple #[.agg (av 5 (w64 (Mon.ofF u).f)), .int .i64 0]) := by
 go_enter Tryz.func114, Tryz.ntmps114
 have M := Mem.start hL
 refine sR <| pN M 2 (.cells (av 5 (w64 (fun _ => 0))) 143) fun g1 u1 M => ?_
 replace M := M.nf
 refine rV 1 <| nT <| wp_seq <| sR <| rV 2 <| ZD 6 ((u.size : Int) = 32) <| nT <| cF <| wp_skip <| au_then <| sR <| rV 1 <| pD M 9 (.agg (av 4 (w64 (Mon.swk u 32)))) (fun w M => l_words u hu w M.laid) fun u2 M => pD M 10 (.agg (av 5 (w64 (Mon.ofF u).f))) (fun w M => l_num u w) fun u3 M => ZG M 0 5 (w64 (Mon.ofF u).f) fun u4 M => ?_
 replace M := M.nf
 refine rV 1 <| nT <| wp_ret ?_
 exact bct Tryz.results114 M 0 5 (w64 (Mon.ofF u).f) (.int .i64 0) ⟨rfl, below_grown M.old⟩
theorem l_coord (u : Yb) (hu : u.size = 32) (w : World) (hL : Laid w)  : Cs 92 #[.string u] w (.tuple #[.agg (av 5 (w64 (Mon.ofF (Mon.mkS u)).f)), .int .i64 0]) := by
 go_enter Tryz.func92, Tryz.ntmps92
 have M := Mem.start hL
 refine sR <| pN M 2 (.cells (av 5 (w64 (fun _ => 0))) 143) fun g1 u1 M => ?_
 replace M := M.nf
 refine rV 1 <| nT <| wp_seq <| sR <| rV 2 <| ZD 7 ((u.size : Int) = 32) <| nT <| cF <| wp_skip <| au_then <| sR <| rV 1 <| pl_conv M (want_no rfl) (some 10) rfl _ rfl u (by kernel_rfl) ?_
 intro g2 cpg2 Zg2 u2 hZg2 M
 replace M := M.nf
 refine rV 1 <| nT <| sR <| rV 1 <| pH 12 (.pointer (some ⟨g2, 31, none⟩)) (run_ix0 44 5 Tryz.underlying44 inz5 _ _ rfl g2 u.size cpg2 (by kernel_rfl) .i64 31 (by kernel_rfl) (by omega)) ?_
 refine pE M 13 g2 31 (.int .u8 (bt u 31)) (fun w M => hZg2.cell (M.get 1 rfl) (by unfold vs8; rw [List.getElem?_map, sb_get _ _ (by omega)]; rfl)) ?_
 refine rV 1 <| pH 15 (.pointer (some ⟨g2, 31, none⟩)) (run_ix0 44 5 Tryz.underlying44 inz5 _ _ rfl g2 u.size cpg2 (by kernel_rfl) .i64 31 (by kernel_rfl) (by omega)) <| pl_putS M (want_no rfl) rfl 5 _ _ rfl 1 g2 31 (by kernel_rfl) _ rfl cpg2 _ hZg2 (by rw [vs8_length, sb_length]; omega) (.int .u8 (bits .and .u8 (bt u 31) 127)) (by kernel_rfl) inz5 rfl rfl ?_
 intro ZA u3 hZA M
 rw [show (vs8 (sb u)).set 31 (.int .u8 (bits .and .u8 (bt u 31) 127)) = vs8 ((sb u).set 31 (bits .and .u8 (bt u 31) 127)) by unfold vs8; rw [List.map_set]] at hZA
 replace M := M.nf
 refine nT <| sR <| rV 1 <| pl_back M (want_no rfl) (some 17) rfl _ rfl 1 g2 u.size cpg2 (by kernel_rfl) _ rfl ((sb u).set 31 (bits .and .u8 (bt u 31) 127)) cpg2 hZA (by rw [List.length_set, sb_length]) (fun y hy => by rcases List.mem_or_eq_of_mem_set hy with h | h; exact sb_nn u y h; rw [h]; exact bd127 _) ?_
 rw [mk_set hu]
 refine pD M 18 (.tuple #[.agg (av 5 (w64 (Mon.ofF (Mon.mkS u)).f)), .int .i64 0]) (fun w M => l_ofN (Mon.mkS u) (Mon.mkS_size u) w M.laid) fun u4 M => rV 2 <| ZG M 0 5 (w64 (Mon.ofF (Mon.mkS u)).f) fun u5 M => ?_
 replace M := M.nf
 refine rV 1 <| nT <| wp_ret ?_
 exact bct Tryz.results92 M 0 5 (w64 (Mon.ofF (Mon.mkS u)).f) (.int .i64 0) ⟨rfl, below_grown M.old⟩
end Go.Proofs.YtiahdbibeleakaaGreatDoor
/- Numbers modulo a prime are the powers of one of them: shown by the factors of the prime without 1.
   2^255 - 19 is a prime, and each number modulo it but 0 is a power of 2. The order of the base point is a prime. -/
namespace Go.Proofs.YtiahdbibeleakaaGreatDoor.Mon
def IsP (p : Nat) : Prop := 1 < p ∧ ∀ d, d ∣ p → d = 1 ∨ d = p
def pmf (m : Nat) : Nat → Nat → Nat → Nat
 | 0, _, _ => 1 % m
 | f + 1, a, e => pmf m f (a * a % m) (e / 2) * a ^ (e % 2) % m
theorem pmf_eq (m : Nat) : ∀ (f a e : Nat), e < 2 ^ f → pmf m f a e = a ^ e % m
 | 0, a, e, h => by
  have : e = 0 := by simp at h; exact h
  subst this
  rfl
 | f + 1, a, e, h => by
  have h2 : e / 2 < 2 ^ f := by rw [Nat.pow_succ] at h; omega
  unfold pmf
  rw [pmf_eq m f _ _ h2, ← Nat.pow_mod, Nat.mod_mul_mod, ← Nat.pow_two, ← Nat.pow_mul, ← Nat.pow_add, show 2 * (e / 2) + e % 2 = e by omega]
theorem one_pow_mod {n x : Nat} (hn : 1 < n) (h : x % n = 1) (k : Nat) : x ^ k % n = 1 := by
 rw [Nat.pow_mod, h, Nat.one_pow, Nat.mod_eq_of_lt hn]
theorem mul_one_mod {n x y : Nat} (h : x % n = 1) : x * y % n = y % n := by
 rw [Nat.mul_mod, h, Nat.one_mul, Nat.mod_mod]
theorem pow_gcd {n g : Nat} (hn : 1 < n) (d e : Nat) : g ^ d % n = 1 → g ^ e % n = 1 → g ^ Nat.gcd d e % n = 1 := by
 induction d, e using Nat.gcd.induction with
 | H0 e => intro _ h; rwa [Nat.gcd_zero_left]
 | H1 d e _ ih =>
  intro h1 h2
  rw [Nat.gcd_rec]
  refine ih ?_ h1
  have e1 : g ^ e = (g ^ d) ^ (e / d) * g ^ (e % d) := by rw [← Nat.pow_mul, ← Nat.pow_add, Nat.div_add_mod]
  rw [e1, mul_one_mod (one_pow_mod hn h1 _)] at h2
  exact h2
def prod : List Nat → Nat
 | [] => 1
 | x :: l => x * prod l
theorem prod_coprime {m : Nat} : ∀ (l : List Nat), (∀ x ∈ l, Nat.Coprime x m) → Nat.Coprime (prod l) m
 | [], _ => Nat.coprime_one_left m
 | x :: l, h => Nat.Coprime.mul_left (h x (List.mem_cons_self)) (prod_coprime l fun y hy => h y (List.mem_cons_of_mem _ hy))
theorem divides_part {d N : Nat} (l : List Nat) (hl : ∀ x ∈ l, IsP x) (hN : prod l = N) (hd : d ∣ N) (hne : d ≠ N) : ∃ x ∈ l, d ∣ N / x := by
 obtain ⟨m, hm⟩ := hd
 by_cases h : ∃ x ∈ l, x ∣ m
 ·obtain ⟨x, hx, y, hy⟩ := h
  refine ⟨x, hx, y, ?_⟩
  have hx0 : 0 < x := by have := (hl x hx).1; omega
  rw [hm, hy, Nat.mul_left_comm, Nat.mul_div_cancel_left _ hx0]
 ·exfalso
  have hc : ∀ x ∈ l, Nat.Coprime x m := fun x hx => by
   rcases (hl x hx).2 _ (Nat.gcd_dvd_left x m) with h1 | h1
   ·exact h1
   ·exact absurd ⟨x, hx, h1 ▸ Nat.gcd_dvd_right x m⟩ h
  have hp := prod_coprime l hc
  rw [hN] at hp
  have : m ∣ Nat.gcd N m := Nat.dvd_gcd ⟨d, by rw [hm, Nat.mul_comm]⟩ (Nat.dvd_refl m)
  rw [hp] at this
  have m1 : m = 1 := Nat.dvd_one.1 this
  rw [m1, Nat.mul_one] at hm
  exact hne hm.symm
theorem pigeon : ∀ (n : Nat) (f : Nat → Nat), (∀ i, i < n → f i < n) → (∀ i j, i < n → j < n → f i = f j → i = j) → ∀ y, y < n → ∃ i, i < n ∧ f i = y
 | 0, _, _, _, y, hy => by omega
 | n + 1, f, hf, hi, y, hy => by
  by_cases hl : ∃ i, i < n ∧ f i = n
  ·obtain ⟨i0, hi0, he0⟩ := hl
   have hfn : f n < n := by
    have h1 := hf n (by omega)
    have h2 : f n ≠ n := fun h => by
     have := hi n i0 (by omega) (by omega) (h.trans he0.symm)
     omega
    omega
   have ih := pigeon n (fun i => if i = i0 then f n else f i) (fun i h => by
    by_cases e : i = i0
    ·simp only [e, if_true]; exact hfn
    ·simp only [e, if_false]
     have h1 := hf i (by omega)
     have h2 : f i ≠ n := fun h3 => e (hi i i0 (by omega) (by omega) (h3.trans he0.symm))
     omega) (fun i j h1 h2 h3 => by
    by_cases e1 : i = i0
    ·by_cases e2 : j = i0
     ·omega
     ·simp only [e1, e2, if_true, if_false] at h3
      have := hi n j (by omega) (by omega) h3
      omega
    ·by_cases e2 : j = i0
     ·simp only [e1, e2, if_true, if_false] at h3
      have := hi i n (by omega) (by omega) h3
      omega
     ·simp only [e1, e2, if_false] at h3
      exact hi i j (by omega) (by omega) h3)
   by_cases hyn : y = n
   ·exact ⟨i0, by omega, by omega⟩
   ·obtain ⟨i, h1, h2⟩ := ih y (by omega)
    by_cases e : i = i0
    ·simp only [e, if_true] at h2
     exact ⟨n, by omega, h2⟩
    ·simp only [e, if_false] at h2
     exact ⟨i, by omega, h2⟩
  ·have ih := pigeon n f (fun i h => by
    have h1 := hf i (by omega)
    have h2 : f i ≠ n := fun h3 => hl ⟨i, h, h3⟩
    omega) (fun i j h1 h2 h3 => hi i j (by omega) (by omega) h3)
   by_cases hfn : f n = n
   ·by_cases hyn : y = n
    ·exact ⟨n, by omega, by omega⟩
    ·obtain ⟨i, h1, h2⟩ := ih y (by omega)
     exact ⟨i, by omega, h2⟩
   ·obtain ⟨i, h1, h2⟩ := ih (f n) (by have := hf n (by omega); omega)
    have := hi i n (by omega) (by omega) h2
    omega
structure Gen (n g : Nat) : Prop where
 gt : 1 < n
 per : g ^ (n - 1) % n = 1
 all : ∀ a, 0 < a → a < n → ∃ i, g ^ i % n = a
theorem gen_of {n g : Nat} (hn : 1 < n) (l : List Nat) (hl : ∀ x ∈ l, IsP x) (hN : prod l = n - 1) (hg : g ^ (n - 1) % n = 1) (ho : ∀ x ∈ l, g ^ ((n - 1) / x) % n ≠ 1) : Gen n g := by
 have hord : ∀ k, 0 < k → k < n - 1 → g ^ k % n ≠ 1 := by
  intro k h0 hk he
  have h1 := pow_gcd hn k (n - 1) he hg
  have h2 : Nat.gcd k (n - 1) ∣ n - 1 := Nat.gcd_dvd_right _ _
  have h3 : Nat.gcd k (n - 1) ≤ k := Nat.le_of_dvd h0 (Nat.gcd_dvd_left _ _)
  obtain ⟨x, hx, y, hy⟩ := divides_part l hl hN h2 (by omega)
  refine ho x hx ?_
  rw [hy, Nat.pow_mul]
  exact one_pow_mod hn h1 y
 have hinj : ∀ i j, i < j → j < n - 1 → g ^ i % n ≠ g ^ j % n := by
  intro i j hij hj he
  refine hord (j - i) (by omega) (by omega) ?_
  have e1 : g ^ i * g ^ (n - 1 - i) % n = 1 := by rw [← Nat.pow_add, show i + (n - 1 - i) = n - 1 by omega, hg]
  have e2 : g ^ j * g ^ (n - 1 - i) % n = g ^ (j - i) % n := by
   rw [← Nat.pow_add, show j + (n - 1 - i) = (n - 1) + (j - i) by omega, Nat.pow_add, mul_one_mod hg]
  rw [← e2, Nat.mul_mod, ← he, ← Nat.mul_mod, e1]
 have hpos : ∀ i, i < n - 1 → 0 < g ^ i % n := by
  intro i hi
  apply Nat.pos_of_ne_zero
  intro h0
  have e1 : g ^ i * g ^ (n - 1 - i) % n = 1 := by rw [← Nat.pow_add, show i + (n - 1 - i) = n - 1 by omega, hg]
  rw [Nat.mul_mod, h0, Nat.zero_mul, Nat.zero_mod] at e1
  cases e1
 refine ⟨hn, hg, fun a h0 ha => ?_⟩
 obtain ⟨i, h1, h2⟩ := pigeon (n - 1) (fun i => g ^ i % n - 1) (fun i hi => by
  have := hpos i hi
  have := Nat.mod_lt (g ^ i) (show 0 < n by omega)
  show g ^ i % n - 1 < n - 1
  omega) (fun i j hi hj he => by
  have h1 := hpos i hi
  have h2 := hpos j hj
  have he2 : g ^ i % n - 1 = g ^ j % n - 1 := he
  have he' : g ^ i % n = g ^ j % n := by omega
  by_cases e : i = j
  ·exact e
  ·exfalso
   by_cases hlt : i < j
   ·exact hinj i j hlt hj he'
   ·exact hinj j i (by omega) hi he'.symm) (a - 1) (by omega)
 refine ⟨i, ?_⟩
 have := hpos i h1
 have h3 : g ^ i % n - 1 = a - 1 := h2
 omega
theorem Gen.isP {n g : Nat} (h : Gen n g) : IsP n := by
 obtain ⟨hn, hg, ha⟩ := h
 refine ⟨hn, fun d hd => ?_⟩
 by_cases e : d = n
 ·exact .inr e
 ·left
  have hle := Nat.le_of_dvd (by omega) hd
  have h0 : 0 < d := Nat.pos_of_ne_zero fun h => by
   subst h
   have := Nat.eq_zero_of_zero_dvd hd
   omega
  obtain ⟨i, hi⟩ := ha d h0 (by omega)
  have e1 : g ^ i * g ^ ((n - 1) * (i + 1) - i) % n = 1 := by
   have h2 : i ≤ (n - 1) * (i + 1) := by
    have : 1 * (i + 1) ≤ (n - 1) * (i + 1) := Nat.mul_le_mul_right _ (by omega)
    omega
   rw [← Nat.pow_add, show i + ((n - 1) * (i + 1) - i) = (n - 1) * (i + 1) by omega, Nat.pow_mul]
   exact one_pow_mod hn hg _
  have e2 : d ∣ g ^ i * g ^ ((n - 1) * (i + 1) - i) := by
   refine Nat.dvd_trans ?_ (Nat.dvd_mul_right _ _)
   rw [← Nat.div_add_mod (g ^ i) n, hi]
   exact (Nat.dvd_add_right (Nat.dvd_trans hd (Nat.dvd_mul_right _ _))).2 (Nat.dvd_refl d)
  have e3 : d ∣ 1 := by
   rw [← e1]
   exact (Nat.dvd_mod_iff hd).2 e2
  exact Nat.dvd_one.1 e3
theorem gen_by {n g : Nat} (f : Nat) (l : List Nat) (hn : 1 < n) (hl : ∀ x ∈ l, IsP x) (hN : prod l = n - 1) (hf : n - 1 < 2 ^ f) (hg : pmf n f g (n - 1) = 1) (ho : (l.all fun x => !Nat.beq (pmf n f g ((n - 1) / x)) 1) = true) : Gen n g := by
 refine gen_of hn l hl hN (by rw [← pmf_eq n f g _ hf]; exact hg) fun x hx he => ?_
 have h := List.all_eq_true.1 ho x hx
 rw [pmf_eq n f g _ (Nat.lt_of_le_of_lt (Nat.div_le_self _ _) hf), he] at h
 cases h
theorem isP2 : IsP 2 := ⟨by decide, fun d h => by
 have := Nat.le_of_dvd (by decide) h
 have : d ≠ 0 := fun e => by subst e; have := Nat.eq_zero_of_zero_dvd h; omega
 omega⟩
theorem all_nil {Q : Nat → Prop} : ∀ x ∈ ([] : List Nat), Q x := fun _ h => by cases h
theorem all_cons {Q : Nat → Prop} {a : Nat} {l : List Nat} (h : Q a) (hl : ∀ x ∈ l, Q x) : ∀ x ∈ a :: l, Q x := fun x hx => by
 rcases List.mem_cons.1 hx with e | e
 ·rw [e]; exact h
 ·exact hl x e
theorem pr {n : Nat} (g f : Nat) (l : List Nat) (hl : ∀ x ∈ l, IsP x) (hn : 1 < n := by decide +kernel) (hN : prod l = n - 1 := by decide +kernel) (hf : n - 1 < 2 ^ f := by decide +kernel) (hg : pmf n f g (n - 1) = 1 := by decide +kernel) (ho : (l.all fun x => !Nat.beq (pmf n f g ((n - 1) / x)) 1) = true := by decide +kernel) : Gen n g := gen_by f l hn hl hN hf hg ho
theorem k_ {x : Nat} {l : List Nat} (h : IsP x) (t : ∀ y ∈ l, IsP y) : ∀ y ∈ x :: l, IsP y := all_cons h t
theorem pq1 : IsP 3 := (pr 2 2 [2] (k_ isP2 all_nil)).isP
theorem pq2 : IsP 17 := (pr 3 5 [2, 2, 2, 2] (k_ isP2 (k_ isP2 (k_ isP2 (k_ isP2 all_nil))))).isP
theorem pq3 : IsP 7 := (pr 3 3 [2, 3] (k_ isP2 (k_ pq1 all_nil))).isP
theorem pq4 : IsP 239 := (pr 7 8 [2, 7, 17] (k_ isP2 (k_ pq3 (k_ pq2 all_nil)))).isP
theorem pq5 : IsP 479 := (pr 13 9 [2, 239] (k_ isP2 (k_ pq4 all_nil))).isP
theorem pq6 : IsP 32573 := (pr 2 15 [2, 2, 17, 479] (k_ isP2 (k_ isP2 (k_ pq2 (k_ pq5 all_nil))))).isP
theorem pq7 : IsP 65147 := (pr 2 16 [2, 32573] (k_ isP2 (k_ pq6 all_nil))).isP
theorem pq8 : IsP 5 := (pr 2 3 [2, 2] (k_ isP2 (k_ isP2 all_nil))).isP
theorem pq9 : IsP 11 := (pr 2 4 [2, 5] (k_ isP2 (k_ pq8 all_nil))).isP
theorem pq10 : IsP 353 := (pr 3 9 [2, 2, 2, 2, 2, 11] (k_ isP2 (k_ isP2 (k_ isP2 (k_ isP2 (k_ isP2 (k_ pq9 all_nil))))))).isP
theorem pq11 : IsP 29 := (pr 2 5 [2, 2, 7] (k_ isP2 (k_ isP2 (k_ pq3 all_nil)))).isP
theorem pq12 : IsP 59 := (pr 2 6 [2, 29] (k_ isP2 (k_ pq11 all_nil))).isP
theorem pq13 : IsP 487 := (pr 3 9 [2, 3, 3, 3, 3, 3] (k_ isP2 (k_ pq1 (k_ pq1 (k_ pq1 (k_ pq1 (k_ pq1 all_nil))))))).isP
theorem pq14 : IsP 57467 := (pr 2 16 [2, 59, 487] (k_ isP2 (k_ pq12 (k_ pq13 all_nil)))).isP
theorem pq15 : IsP 13 := (pr 2 4 [2, 2, 3] (k_ isP2 (k_ isP2 (k_ pq1 all_nil)))).isP
theorem pq16 : IsP 131 := (pr 2 8 [2, 5, 13] (k_ isP2 (k_ pq8 (k_ pq15 all_nil)))).isP
theorem pq17 : IsP 132049 := (pr 26 18 [2, 2, 2, 2, 3, 3, 7, 131] (k_ isP2 (k_ isP2 (k_ isP2 (k_ isP2 (k_ pq1 (k_ pq1 (k_ pq3 (k_ pq16 all_nil))))))))).isP
theorem pq18 : IsP 43 := (pr 3 6 [2, 3, 7] (k_ isP2 (k_ pq1 (k_ pq3 all_nil)))).isP
theorem pq19 : IsP 23 := (pr 5 5 [2, 11] (k_ isP2 (k_ pq9 all_nil))).isP
theorem pq20 : IsP 3727 := (pr 3 12 [2, 3, 3, 3, 3, 23] (k_ isP2 (k_ pq1 (k_ pq1 (k_ pq1 (k_ pq1 (k_ pq19 all_nil))))))).isP
theorem pq21 : IsP 1923133 := (pr 2 21 [2, 2, 3, 43, 3727] (k_ isP2 (k_ isP2 (k_ pq1 (k_ pq18 (k_ pq20 all_nil)))))).isP
theorem pq22 : IsP 31 := (pr 3 5 [2, 3, 5] (k_ isP2 (k_ pq1 (k_ pq8 all_nil)))).isP
theorem pq23 : IsP 53 := (pr 2 6 [2, 2, 13] (k_ isP2 (k_ isP2 (k_ pq15 all_nil)))).isP
theorem pq24 : IsP 107 := (pr 2 7 [2, 53] (k_ isP2 (k_ pq23 all_nil))).isP
theorem pq25 : IsP 37 := (pr 2 6 [2, 2, 3, 3] (k_ isP2 (k_ isP2 (k_ pq1 (k_ pq1 all_nil))))).isP
theorem pq26 : IsP 223 := (pr 3 8 [2, 3, 37] (k_ isP2 (k_ pq1 (k_ pq25 all_nil)))).isP
theorem pq27 : IsP 173 := (pr 2 8 [2, 2, 43] (k_ isP2 (k_ isP2 (k_ pq18 all_nil)))).isP
theorem pq28 : IsP 4153 := (pr 5 13 [2, 2, 2, 3, 173] (k_ isP2 (k_ isP2 (k_ isP2 (k_ pq1 (k_ pq27 all_nil)))))).isP
theorem pq29 : IsP 41 := (pr 6 6 [2, 2, 2, 5] (k_ isP2 (k_ isP2 (k_ isP2 (k_ pq8 all_nil))))).isP
theorem pq30 : IsP 1723 := (pr 3 11 [2, 3, 7, 41] (k_ isP2 (k_ pq1 (k_ pq3 (k_ pq29 all_nil))))).isP
theorem pq31 : IsP 430751 := (pr 17 19 [2, 5, 5, 5, 1723] (k_ isP2 (k_ pq8 (k_ pq8 (k_ pq8 (k_ pq30 all_nil)))))).isP
theorem pq32 : IsP 31757755568855353 := (pr 10 55 [2, 2, 2, 3, 31, 107, 223, 4153, 430751] (k_ isP2 (k_ isP2 (k_ isP2 (k_ pq1 (k_ pq22 (k_ pq24 (k_ pq26 (k_ pq28 (k_ pq31 all_nil)))))))))).isP
theorem pq33 : IsP 19 := (pr 2 5 [2, 3, 3] (k_ isP2 (k_ pq1 (k_ pq1 all_nil)))).isP
theorem pq34 : IsP 83 := (pr 2 7 [2, 41] (k_ isP2 (k_ pq29 all_nil))).isP
theorem pq35 : IsP 9463 := (pr 3 14 [2, 3, 19, 83] (k_ isP2 (k_ pq1 (k_ pq33 (k_ pq34 all_nil))))).isP
theorem pq36 : IsP 37853 := (pr 2 16 [2, 2, 9463] (k_ isP2 (k_ isP2 (k_ pq35 all_nil)))).isP
theorem pq37 : IsP 75707 := (pr 2 17 [2, 37853] (k_ isP2 (k_ pq36 all_nil))).isP
theorem pq38 : IsP 47 := (pr 5 6 [2, 23] (k_ isP2 (k_ pq19 all_nil))).isP
theorem pq39 : IsP 127 := (pr 3 7 [2, 3, 3, 7] (k_ isP2 (k_ pq1 (k_ pq1 (k_ pq3 all_nil))))).isP
theorem pq40 : IsP 103 := (pr 5 7 [2, 3, 17] (k_ isP2 (k_ pq1 (k_ pq2 all_nil)))).isP
theorem pq41 : IsP 991 := (pr 6 10 [2, 3, 3, 5, 11] (k_ isP2 (k_ pq1 (k_ pq1 (k_ pq8 (k_ pq9 all_nil)))))).isP
theorem pq42 : IsP 8574133 := (pr 2 24 [2, 2, 3, 7, 103, 991] (k_ isP2 (k_ isP2 (k_ pq1 (k_ pq3 (k_ pq40 (k_ pq41 all_nil))))))).isP
theorem pq43 : IsP 1919519569386763 := (pr 2 51 [2, 3, 7, 19, 47, 47, 127, 8574133] (k_ isP2 (k_ pq1 (k_ pq3 (k_ pq33 (k_ pq38 (k_ pq38 (k_ pq39 (k_ pq42 all_nil))))))))).isP
theorem pq44 : IsP 2437 := (pr 2 12 [2, 2, 3, 7, 29] (k_ isP2 (k_ isP2 (k_ pq1 (k_ pq3 (k_ pq11 all_nil)))))).isP
theorem pq45 : IsP 97 := (pr 5 7 [2, 2, 2, 2, 2, 3] (k_ isP2 (k_ isP2 (k_ isP2 (k_ isP2 (k_ isP2 (k_ pq1 all_nil))))))).isP
theorem pq46 : IsP 419 := (pr 2 9 [2, 11, 19] (k_ isP2 (k_ pq9 (k_ pq33 all_nil)))).isP
theorem pq47 : IsP 569003 := (pr 2 20 [2, 7, 97, 419] (k_ isP2 (k_ pq3 (k_ pq45 (k_ pq46 all_nil))))).isP
theorem pq48 : IsP 2773320623 := (pr 5 32 [2, 2437, 569003] (k_ isP2 (k_ pq44 (k_ pq47 all_nil)))).isP
theorem pq49 : IsP 72106336199 := (pr 7 37 [2, 13, 2773320623] (k_ isP2 (k_ pq15 (k_ pq48 all_nil)))).isP
theorem pq50 : IsP 75445702479781427272750846543864801 := (pr 7 116 [2, 2, 2, 2, 2, 3, 3, 5, 5, 75707, 1919519569386763, 72106336199] (k_ isP2 (k_ isP2 (k_ isP2 (k_ isP2 (k_ isP2 (k_ pq1 (k_ pq1 (k_ pq8 (k_ pq8 (k_ pq37 (k_ pq43 (k_ pq49 all_nil))))))))))))).isP
theorem pq51 : IsP 74058212732561358302231226437062788676166966415465897661863160754340907 := (pr 2 236 [2, 3, 353, 57467, 132049, 1923133, 31757755568855353, 75445702479781427272750846543864801] (k_ isP2 (k_ pq1 (k_ pq10 (k_ pq14 (k_ pq17 (k_ pq21 (k_ pq32 (k_ pq50 all_nil))))))))).isP
theorem pq52 : IsP 34123 := (pr 2 16 [2, 3, 11, 11, 47] (k_ isP2 (k_ pq1 (k_ pq9 (k_ pq9 (k_ pq38 all_nil)))))).isP
theorem pq53 : IsP 409477 := (pr 2 19 [2, 2, 3, 34123] (k_ isP2 (k_ isP2 (k_ pq1 (k_ pq52 all_nil))))).isP
theorem pq54 : IsP 14741173 := (pr 2 24 [2, 2, 3, 3, 409477] (k_ isP2 (k_ isP2 (k_ pq1 (k_ pq1 (k_ pq53 all_nil)))))).isP
theorem pq55 : IsP 58964693 := (pr 2 26 [2, 2, 14741173] (k_ isP2 (k_ isP2 (k_ pq54 all_nil)))).isP
theorem pq56 : IsP 30703 := (pr 3 15 [2, 3, 7, 17, 43] (k_ isP2 (k_ pq1 (k_ pq3 (k_ pq2 (k_ pq18 all_nil)))))).isP
theorem pq57 : IsP 79 := (pr 3 7 [2, 3, 13] (k_ isP2 (k_ pq1 (k_ pq15 all_nil)))).isP
theorem pq58 : IsP 41081 := (pr 3 16 [2, 2, 2, 5, 13, 79] (k_ isP2 (k_ isP2 (k_ isP2 (k_ pq8 (k_ pq15 (k_ pq57 all_nil))))))).isP
theorem pq59 : IsP 82163 := (pr 2 17 [2, 41081] (k_ isP2 (k_ pq58 all_nil))).isP
theorem pq60 : IsP 17231 := (pr 13 15 [2, 5, 1723] (k_ isP2 (k_ pq8 (k_ pq30 all_nil)))).isP
theorem pq61 : IsP 137849 := (pr 3 18 [2, 2, 2, 17231] (k_ isP2 (k_ isP2 (k_ isP2 (k_ pq60 all_nil))))).isP
theorem pq62 : IsP 67 := (pr 2 7 [2, 3, 11] (k_ isP2 (k_ pq1 (k_ pq9 all_nil)))).isP
theorem pq63 : IsP 22111 := (pr 6 15 [2, 3, 5, 11, 67] (k_ isP2 (k_ pq1 (k_ pq8 (k_ pq9 (k_ pq62 all_nil)))))).isP
theorem pq64 : IsP 132667 := (pr 5 18 [2, 3, 22111] (k_ isP2 (k_ pq1 (k_ pq63 all_nil)))).isP
theorem pq65 : IsP 3044861653679985063343 := (pr 5 72 [2, 3, 11, 30703, 82163, 137849, 132667] (k_ isP2 (k_ pq1 (k_ pq9 (k_ pq56 (k_ pq59 (k_ pq61 (k_ pq64 all_nil)))))))).isP
theorem pq66 : IsP 198211423230930754013084525763697 := (pr 5 108 [2, 2, 2, 2, 3, 23, 58964693, 3044861653679985063343] (k_ isP2 (k_ isP2 (k_ isP2 (k_ isP2 (k_ pq1 (k_ pq19 (k_ pq55 (k_ pq65 all_nil))))))))).isP
theorem pq67 : IsP 269 := (pr 2 9 [2, 2, 67] (k_ isP2 (k_ isP2 (k_ pq62 all_nil)))).isP
theorem pq68 : IsP 73 := (pr 5 7 [2, 2, 2, 3, 3] (k_ isP2 (k_ isP2 (k_ isP2 (k_ pq1 (k_ pq1 all_nil)))))).isP
theorem pq69 : IsP 307 := (pr 5 9 [2, 3, 3, 17] (k_ isP2 (k_ pq1 (k_ pq1 (k_ pq2 all_nil))))).isP
theorem pq70 : IsP 113 := (pr 3 7 [2, 2, 2, 2, 7] (k_ isP2 (k_ isP2 (k_ isP2 (k_ isP2 (k_ pq3 all_nil)))))).isP
theorem pq71 : IsP 2939 := (pr 2 12 [2, 13, 113] (k_ isP2 (k_ pq15 (k_ pq70 all_nil)))).isP
theorem pq72 : IsP 5879 := (pr 11 13 [2, 2939] (k_ isP2 (k_ pq71 all_nil))).isP
theorem pq73 : IsP 292386187 := (pr 2 29 [2, 3, 3, 3, 3, 307, 5879] (k_ isP2 (k_ pq1 (k_ pq1 (k_ pq1 (k_ pq1 (k_ pq69 (k_ pq72 all_nil)))))))).isP
theorem pq74 : IsP 213441916511 := (pr 13 38 [2, 5, 73, 292386187] (k_ isP2 (k_ pq8 (k_ pq68 (k_ pq73 all_nil))))).isP
theorem pq75 : IsP 1361 := (pr 3 11 [2, 2, 2, 2, 5, 17] (k_ isP2 (k_ isP2 (k_ isP2 (k_ isP2 (k_ pq8 (k_ pq2 all_nil))))))).isP
theorem pq76 : IsP 2851 := (pr 2 12 [2, 3, 5, 5, 19] (k_ isP2 (k_ pq1 (k_ pq8 (k_ pq8 (k_ pq33 all_nil)))))).isP
theorem pq77 : IsP 2551 := (pr 6 12 [2, 3, 5, 5, 17] (k_ isP2 (k_ pq1 (k_ pq8 (k_ pq8 (k_ pq2 all_nil)))))).isP
theorem pq78 : IsP 1224481 := (pr 13 21 [2, 2, 2, 2, 2, 3, 5, 2551] (k_ isP2 (k_ isP2 (k_ isP2 (k_ isP2 (k_ isP2 (k_ pq1 (k_ pq8 (k_ pq77 all_nil))))))))).isP
theorem pq79 : IsP 3797 := (pr 2 12 [2, 2, 13, 73] (k_ isP2 (k_ isP2 (k_ pq15 (k_ pq68 all_nil))))).isP
theorem pq80 : IsP 531581 := (pr 2 20 [2, 2, 5, 7, 3797] (k_ isP2 (k_ isP2 (k_ pq8 (k_ pq3 (k_ pq79 all_nil)))))).isP
theorem pq81 : IsP 1257559732178653 := (pr 2 51 [2, 2, 3, 7, 23, 1224481, 531581] (k_ isP2 (k_ isP2 (k_ pq1 (k_ pq3 (k_ pq19 (k_ pq78 (k_ pq80 all_nil)))))))).isP
theorem pq82 : IsP 4434155615661930479 := (pr 17 62 [2, 41, 43, 1257559732178653] (k_ isP2 (k_ pq29 (k_ pq18 (k_ pq81 all_nil))))).isP
theorem pq83 : IsP 172054593956031949258510691 := (pr 2 88 [2, 5, 1361, 2851, 4434155615661930479] (k_ isP2 (k_ pq8 (k_ pq75 (k_ pq76 (k_ pq82 all_nil)))))).isP
theorem pq84 : IsP 19757330305831588566944191468367130476339 := (pr 2 134 [2, 269, 213441916511, 172054593956031949258510691] (k_ isP2 (k_ pq67 (k_ pq74 (k_ pq83 all_nil))))).isP
theorem pq85 : IsP 276602624281642239937218680557139826668747 := (pr 2 138 [2, 7, 19757330305831588566944191468367130476339] (k_ isP2 (k_ pq3 (k_ pq84 all_nil)))).isP
theorem genP : Gen 57896044618658097711785492504343953926634992332820282019728792003956564819949 2 := pr 2 255 [2, 2, 3, 65147, 74058212732561358302231226437062788676166966415465897661863160754340907] (k_ isP2 (k_ isP2 (k_ pq1 (k_ pq7 (k_ pq51 all_nil)))))
theorem isL : IsP 7237005577332262213973186563042994240857116359379907606001950938285454250989 := (pr 2 253 [2, 2, 3, 11, 198211423230930754013084525763697, 276602624281642239937218680557139826668747] (k_ isP2 (k_ isP2 (k_ pq1 (k_ pq9 (k_ pq66 (k_ pq85 all_nil))))))).isP
abbrev Fq := Fin pN
theorem genQ : Gen pN 2 := genP
theorem primeP : IsP pN := genQ.isP
theorem dvd_or {a b : Nat} (h : pN ∣ a * b) : pN ∣ a ∨ pN ∣ b := by
 by_cases ha : pN ∣ a
 ·exact .inl ha
 ·right
  have hg : Nat.Coprime pN a := by
   rcases primeP.2 _ (Nat.gcd_dvd_left pN a) with h1 | h1
   ·exact h1
   ·exact absurd (h1 ▸ Nat.gcd_dvd_right pN a) ha
  exact Nat.Coprime.dvd_of_dvd_mul_left hg h
theorem fq_zero {a : Fq} (h : pN ∣ a.val) : a = 0 := by
 apply Fin.ext
 have h1 := Nat.mod_eq_zero_of_dvd h
 rw [Nat.mod_eq_of_lt a.isLt] at h1
 rw [h1]
 rfl
theorem fq_mul {a b : Fq} (h : a * b = 0) : a = 0 ∨ b = 0 := by
 have h1 : a.val * b.val % pN = 0 := by
  have := congrArg Fin.val h
  rw [Fin.val_mul] at this
  exact this
 rcases dvd_or (Nat.dvd_of_mod_eq_zero h1) with h2 | h2
 ·exact .inl (fq_zero h2)
 ·exact .inr (fq_zero h2)
theorem fq_ne {a b : Fq} (ha : a ≠ 0) (hb : b ≠ 0) : a * b ≠ 0 := fun h => by
 rcases fq_mul h with h | h
 ·exact ha h
 ·exact hb h
theorem fermatN {a : Nat} (h0 : 0 < a) (h1 : a < pN) : a ^ (pN - 1) % pN = 1 := by
 obtain ⟨i, hi⟩ := genQ.all a h0 h1
 rw [← hi, ← Nat.pow_mod, ← Nat.pow_mul, Nat.mul_comm, Nat.pow_mul]
 exact one_pow_mod genQ.gt genQ.per i
def finv (a : Fq) : Fq := ⟨pmf pN 255 a.val (pN - 2) % pN, Nat.mod_lt _ (by decide)⟩
theorem finv_mul {a : Fq} (h : a ≠ 0) : a * finv a = 1 := by
 have h0 : 0 < a.val := by
  refine Nat.pos_of_ne_zero fun e => h ?_
  apply Fin.ext
  rw [e]
  rfl
 apply Fin.ext
 rw [Fin.val_mul]
 show a.val * (pmf pN 255 a.val (pN - 2) % pN) % pN = 1
 rw [pmf_eq pN 255 a.val _ (by decide), Nat.mod_mod, Nat.mul_mod_mod]
 have e : a.val * a.val ^ (pN - 2) = a.val ^ (pN - 1) := by
  rw [show pN - 1 = (pN - 2) + 1 by decide, Nat.pow_succ, Nat.mul_comm]
 rw [e]
 exact fermatN h0 a.isLt
def dE : Fq := 37095705934669439343138083508754565189542113879843219016388785533085940283555
def iE : Fq := 19681161376707505956807079304988542015446066515923890162744021073123829784752
theorem iE_sq : iE * iE = -1 := by decide +kernel
theorem dE_half : pmf pN 255 dE.val ((pN - 1) / 2) = pN - 1 := by decide +kernel
theorem not_sq (z : Fq) : z * z ≠ dE := by
 intro h
 have h1 : z.val * z.val % pN = dE.val := by
  have := congrArg Fin.val h
  rwa [Fin.val_mul] at this
 have h2 := dE_half
 rw [pmf_eq pN 255 _ _ (by decide), ← h1, ← Nat.pow_mod, ← Nat.pow_two, ← Nat.pow_mul, show 2 * ((pN - 1) / 2) = pN - 1 by decide] at h2
 by_cases hz : z.val = 0
 ·rw [hz, Nat.zero_pow (by decide)] at h2
  revert h2
  decide
 ·rw [fermatN (Nat.pos_of_ne_zero hz) z.isLt] at h2
  revert h2
  decide
theorem two_ne : (2 : Fq) ≠ 0 := by decide +kernel
theorem one_ne : (1 : Fq) ≠ 0 := by decide +kernel
def On (x y : Fq) : Prop := y * y - x * x = 1 + dE * (x * x * (y * y))
theorem sq_key {i d x1 y1 x2 y2 e : Fq} (hi : i * i = -1) (he : e * e = 1) (h1 : y1 * y1 - x1 * x1 = 1 + d * (x1 * x1 * (y1 * y1))) (h2 : y2 * y2 - x2 * x2 = 1 + d * (x2 * x2 * (y2 * y2))) (h : d * (x1 * x2 * (y1 * y2)) = e) :
  (i * (i * x1 + e * y1)) * (i * (i * x1 + e * y1)) = d * ((i * x1 * y1 * (i * x2 + y2)) * (i * x1 * y1 * (i * x2 + y2))) := by
 grind
theorem fq_cancel {a b c : Fq} (hc : c ≠ 0) (h : a * c = b * c) : a = b := by
 have h1 : (a - b) * c = 0 := by clear hc; grind
 rcases fq_mul h1 with h2 | h2
 ·clear h h1 hc
  grind
 ·exact absurd h2 hc
theorem no_root {A B : Fq} (h : A * A = dE * (B * B)) : B = 0 := by
 refine Classical.byContradiction fun hB => ?_
 have hi := finv_mul hB
 refine not_sq (A * finv B) ?_
 generalize finv B = c at hi ⊢
 grind
theorem nn (e : Fq) : -e * -e = e * e := by grind
theorem z4 {d x1 y1 x2 y2 : Fq} (h : x1 = 0) : d * (x1 * x2 * (y1 * y2)) = 0 := by rw [h]; grind
theorem z5 {d x1 y1 x2 y2 : Fq} (h : y1 = 0) : d * (x1 * x2 * (y1 * y2)) = 0 := by rw [h]; grind
theorem z6 {d x1 y1 x2 y2 : Fq} (h : y2 = 0) : d * (x1 * x2 * (y1 * y2)) = 0 := by rw [h]; grind
theorem z7 {i x y : Fq} (h1 : i * x + y = 0) (h2 : i * x + -y = 0) : 2 * y = 0 := by grind
theorem n1 (d x1 y1 x2 y2 : Fq) : d * (x1 * x2 * (y1 * -y2)) = -(d * (x1 * x2 * (y1 * y2))) := by grind
theorem n2 {d x y : Fq} (h : y * y - x * x = 1 + d * (x * x * (y * y))) : -y * -y - x * x = 1 + d * (x * x * (-y * -y)) := by rw [nn]; exact h
theorem n3 {a : Fq} (h : 1 + a = 0) : a = -1 := by grind
theorem n4 {a : Fq} (h : 1 - a = 0) : a = 1 := by grind
theorem n5 : (-1 : Fq) * -1 = 1 := by grind
theorem n6 : (1 : Fq) * 1 = 1 := by grind
theorem zz : (0 : Fq) * 0 = 0 := by grind
theorem den_ne {x1 y1 x2 y2 e : Fq} (h1 : On x1 y1) (h2 : On x2 y2) (he : e * e = 1) : dE * (x1 * x2 * (y1 * y2)) ≠ e := by
 intro h
 unfold On at h1 h2
 have k1 := no_root (sq_key iE_sq he h1 h2 h)
 have k2 := no_root (sq_key (i := iE) (e := -e) (y2 := -y2) iE_sq (by rw [nn]; exact he) h1 (n2 h2) (by rw [n1, h]))
 have he0 : e ≠ 0 := fun e0 => one_ne (by rw [← he, e0]; exact zz)
 have hx1 : x1 ≠ 0 := fun e0 => he0 (by rw [← h]; exact z4 e0)
 have hy1 : y1 ≠ 0 := fun e0 => he0 (by rw [← h]; exact z5 e0)
 have hy2 : y2 ≠ 0 := fun e0 => he0 (by rw [← h]; exact z6 e0)
 have hi : iE ≠ 0 := by decide +kernel
 have hw : iE * x1 * y1 ≠ 0 := fq_ne (fq_ne hi hx1) hy1
 rcases fq_mul k1 with h3 | h3
 ·exact hw h3
 ·rcases fq_mul k2 with h4 | h4
  ·exact hw h4
  ·rcases fq_mul (z7 h3 h4) with h5 | h5
   ·exact two_ne h5
   ·exact hy2 h5
theorem den_plus {x1 y1 x2 y2 : Fq} (h1 : On x1 y1) (h2 : On x2 y2) : 1 + dE * (x1 * x2 * (y1 * y2)) ≠ 0 := fun h => den_ne (e := -1) h1 h2 n5 (n3 h)
theorem den_minus {x1 y1 x2 y2 : Fq} (h1 : On x1 y1) (h2 : On x2 y2) : 1 - dE * (x1 * x2 * (y1 * y2)) ≠ 0 := fun h => den_ne (e := 1) h1 h2 n6 (n4 h)
structure Pt where
 x : Fq
 y : Fq
 on : On x y
theorem Pt.ext {p q : Pt} (hx : p.x = q.x) (hy : p.y = q.y) : p = q := by
 cases p
 cases q
 simp only at hx hy
 subst hx
 subst hy
 rfl
theorem on_key {d x1 y1 x2 y2 X Y : Fq} (h1 : y1 * y1 - x1 * x1 = 1 + d * (x1 * x1 * (y1 * y1))) (h2 : y2 * y2 - x2 * x2 = 1 + d * (x2 * x2 * (y2 * y2))) (hX : X * (1 + d * (x1 * x2 * (y1 * y2))) = x1 * y2 + y1 * x2) (hY : Y * (1 - d * (x1 * x2 * (y1 * y2))) = y1 * y2 + x1 * x2) :
  (Y * Y - X * X) * ((1 + d * (x1 * x2 * (y1 * y2))) * (1 - d * (x1 * x2 * (y1 * y2))) * ((1 + d * (x1 * x2 * (y1 * y2))) * (1 - d * (x1 * x2 * (y1 * y2))))) = (1 + d * (X * X * (Y * Y))) * ((1 + d * (x1 * x2 * (y1 * y2))) * (1 - d * (x1 * x2 * (y1 * y2))) * ((1 + d * (x1 * x2 * (y1 * y2))) * (1 - d * (x1 * x2 * (y1 * y2))))) := by
 have a : (X * (1 + d * (x1 * x2 * (y1 * y2)))) * (X * (1 + d * (x1 * x2 * (y1 * y2)))) = (x1 * y2 + y1 * x2) * (x1 * y2 + y1 * x2) := by rw [hX]
 have b : (Y * (1 - d * (x1 * x2 * (y1 * y2)))) * (Y * (1 - d * (x1 * x2 * (y1 * y2)))) = (y1 * y2 + x1 * x2) * (y1 * y2 + x1 * x2) := by rw [hY]
 have key : (y1 * y2 + x1 * x2) * (y1 * y2 + x1 * x2) * ((1 + d * (x1 * x2 * (y1 * y2))) * (1 + d * (x1 * x2 * (y1 * y2)))) - (x1 * y2 + y1 * x2) * (x1 * y2 + y1 * x2) * ((1 - d * (x1 * x2 * (y1 * y2))) * (1 - d * (x1 * x2 * (y1 * y2)))) = (1 + d * (x1 * x2 * (y1 * y2))) * (1 - d * (x1 * x2 * (y1 * y2))) * ((1 + d * (x1 * x2 * (y1 * y2))) * (1 - d * (x1 * x2 * (y1 * y2)))) + d * ((x1 * y2 + y1 * x2) * (x1 * y2 + y1 * x2) * ((y1 * y2 + x1 * x2) * (y1 * y2 + x1 * x2))) := by
  clear hX hY a b
  grind
 rw [← a, ← b] at key
 clear hX hY a b h1 h2
 generalize 1 + d * (x1 * x2 * (y1 * y2)) = u at *
 generalize 1 - d * (x1 * x2 * (y1 * y2)) = v at *
 grind
def sx (p q : Pt) : Fq := (p.x * q.y + p.y * q.x) * finv (1 + dE * (p.x * q.x * (p.y * q.y)))
def sy (p q : Pt) : Fq := (p.y * q.y + p.x * q.x) * finv (1 - dE * (p.x * q.x * (p.y * q.y)))
theorem div_mul {a c : Fq} (hc : c ≠ 0) : a * finv c * c = a := by
 have h := finv_mul hc
 generalize finv c = b at *
 clear hc
 grind
theorem sx_mul (p q : Pt) : sx p q * (1 + dE * (p.x * q.x * (p.y * q.y))) = p.x * q.y + p.y * q.x := div_mul (den_plus p.on q.on)
theorem sy_mul (p q : Pt) : sy p q * (1 - dE * (p.x * q.x * (p.y * q.y))) = p.y * q.y + p.x * q.x := div_mul (den_minus p.on q.on)
theorem s_on (p q : Pt) : On (sx p q) (sy p q) := by
 have h := on_key p.on q.on (sx_mul p q) (sy_mul p q)
 have h1 := den_plus p.on q.on
 have h2 := den_minus p.on q.on
 exact fq_cancel (fq_ne (fq_ne h1 h2) (fq_ne h1 h2)) h
def Pt.add (p q : Pt) : Pt := ⟨sx p q, sy p q, s_on p q⟩
def zeroP : Pt := ⟨0, 1, by unfold On; decide +kernel⟩
theorem neg_on {x y : Fq} (h : On x y) : On (-x) y := by
 unfold On at *
 rw [nn]
 exact h
def Pt.neg (p : Pt) : Pt := ⟨-p.x, p.y, neg_on p.on⟩
theorem add_eq {p q r : Pt} (h1 : r.x * (1 + dE * (p.x * q.x * (p.y * q.y))) = p.x * q.y + p.y * q.x) (h2 : r.y * (1 - dE * (p.x * q.x * (p.y * q.y))) = p.y * q.y + p.x * q.x) : p.add q = r :=
 Pt.ext (fq_cancel (den_plus p.on q.on) ((sx_mul p q).trans h1.symm)) (fq_cancel (den_minus p.on q.on) ((sy_mul p q).trans h2.symm))
theorem c1 (d a b c e X : Fq) (h : X * (1 + d * (a * c * (b * e))) = a * e + b * c) : X * (1 + d * (c * a * (e * b))) = c * b + e * a := by grind
theorem c2 (d a b c e X : Fq) (h : X * (1 - d * (a * c * (b * e))) = b * e + a * c) : X * (1 - d * (c * a * (e * b))) = e * b + c * a := by grind
theorem add_comm' (p q : Pt) : p.add q = q.add p := (add_eq (c1 _ _ _ _ _ _ (sx_mul p q)) (c2 _ _ _ _ _ _ (sy_mul p q))).symm
theorem c3 (d a b : Fq) : a * (1 + d * (a * 0 * (b * 1))) = a * 1 + b * 0 := by grind
theorem c4 (d a b : Fq) : b * (1 - d * (a * 0 * (b * 1))) = b * 1 + a * 0 := by grind
theorem add_zero' (p : Pt) : p.add zeroP = p := add_eq (c3 _ _ _) (c4 _ _ _)
theorem c5 (d a b : Fq) : 0 * (1 + d * (a * -a * (b * b))) = a * b + b * -a := by grind
theorem c6 {d a b : Fq} (h : b * b - a * a = 1 + d * (a * a * (b * b))) : 1 * (1 - d * (a * -a * (b * b))) = b * b + a * -a := by grind
theorem add_neg' (p : Pt) : p.add p.neg = zeroP := add_eq (c5 _ _ _) (c6 p.on)
theorem as_x {d x1 y1 x2 y2 x3 y3 : Fq} (e1 : y1 * y1 - x1 * x1 = 1 + d * (x1 * x1 * (y1 * y1))) (e2 : y2 * y2 - x2 * x2 = 1 + d * (x2 * x2 * (y2 * y2))) (e3 : y3 * y3 - x3 * x3 = 1 + d * (x3 * x3 * (y3 * y3))) :
  ((x1 * y2 + y1 * x2) * (1 - d * (x1 * x2 * (y1 * y2))) * y3 + (y1 * y2 + x1 * x2) * (1 + d * (x1 * x2 * (y1 * y2))) * x3) * ((1 + d * (x2 * x3 * (y2 * y3))) * (1 - d * (x2 * x3 * (y2 * y3))) + d * ((x2 * y3 + y2 * x3) * (y2 * y3 + x2 * x3) * (x1 * y1)))
  = ((x2 * y3 + y2 * x3) * (1 - d * (x2 * x3 * (y2 * y3))) * y1 + (y2 * y3 + x2 * x3) * (1 + d * (x2 * x3 * (y2 * y3))) * x1) * ((1 + d * (x1 * x2 * (y1 * y2))) * (1 - d * (x1 * x2 * (y1 * y2))) + d * ((x1 * y2 + y1 * x2) * (y1 * y2 + x1 * x2) * (x3 * y3))) := by
 grind
theorem as_y {d x1 y1 x2 y2 x3 y3 : Fq} (e1 : y1 * y1 - x1 * x1 = 1 + d * (x1 * x1 * (y1 * y1))) (e2 : y2 * y2 - x2 * x2 = 1 + d * (x2 * x2 * (y2 * y2))) (e3 : y3 * y3 - x3 * x3 = 1 + d * (x3 * x3 * (y3 * y3))) :
  ((y1 * y2 + x1 * x2) * (1 + d * (x1 * x2 * (y1 * y2))) * y3 + (x1 * y2 + y1 * x2) * (1 - d * (x1 * x2 * (y1 * y2))) * x3) * ((1 + d * (x2 * x3 * (y2 * y3))) * (1 - d * (x2 * x3 * (y2 * y3))) - d * ((x2 * y3 + y2 * x3) * (y2 * y3 + x2 * x3) * (x1 * y1)))
  = ((y2 * y3 + x2 * x3) * (1 + d * (x2 * x3 * (y2 * y3))) * y1 + (x2 * y3 + y2 * x3) * (1 - d * (x2 * x3 * (y2 * y3))) * x1) * ((1 + d * (x1 * x2 * (y1 * y2))) * (1 - d * (x1 * x2 * (y1 * y2))) - d * ((x1 * y2 + y1 * x2) * (y1 * y2 + x1 * x2) * (x3 * y3))) := by
 grind
theorem up_x {d A B u v X Y L x3 y3 : Fq} (hX : X * u = A) (hY : Y * v = B) (hL : L * (1 + d * (X * x3 * (Y * y3))) = X * y3 + Y * x3) : L * (u * v + d * (A * B * (x3 * y3))) = A * v * y3 + B * u * x3 := by
 subst hX
 subst hY
 grind
theorem up_y {d A B u v X Y L x3 y3 : Fq} (hX : X * u = A) (hY : Y * v = B) (hL : L * (1 - d * (X * x3 * (Y * y3))) = Y * y3 + X * x3) : L * (u * v - d * (A * B * (x3 * y3))) = B * u * y3 + A * v * x3 := by
 subst hX
 subst hY
 grind
theorem up_d {d A B u v X Y x3 y3 : Fq} (hX : X * u = A) (hY : Y * v = B) : (1 + d * (X * x3 * (Y * y3))) * (u * v) = u * v + d * (A * B * (x3 * y3)) := by
 subst hX
 subst hY
 grind
theorem up_e {d A B u v X Y x3 y3 : Fq} (hX : X * u = A) (hY : Y * v = B) : (1 - d * (X * x3 * (Y * y3))) * (u * v) = u * v - d * (A * B * (x3 * y3)) := by
 subst hX
 subst hY
 grind
theorem cross {L M N K D E : Fq} (h1 : L * D = N) (h2 : M * E = K) (h3 : N * E = K * D) (hD : D ≠ 0) (hE : E ≠ 0) : L = M := by
 refine fq_cancel (fq_ne hD hE) ?_
 subst h1
 subst h2
 clear hD hE
 grind
theorem add_assoc' (p q r : Pt) : (p.add q).add r = p.add (q.add r) := by
 have a1 := sx_mul p q
 have a2 := sy_mul p q
 have b1 := sx_mul q r
 have b2 := sy_mul q r
 have d1 := fq_ne (den_plus (p.add q).on r.on) (fq_ne (den_plus p.on q.on) (den_minus p.on q.on))
 have d2 := fq_ne (den_plus (q.add r).on p.on) (fq_ne (den_plus q.on r.on) (den_minus q.on r.on))
 have f1 := fq_ne (den_minus (p.add q).on r.on) (fq_ne (den_plus p.on q.on) (den_minus p.on q.on))
 have f2 := fq_ne (den_minus (q.add r).on p.on) (fq_ne (den_plus q.on r.on) (den_minus q.on r.on))
 rw [show (p.add q).x = sx p q from rfl, show (p.add q).y = sy p q from rfl, up_d a1 a2] at d1
 rw [show (q.add r).x = sx q r from rfl, show (q.add r).y = sy q r from rfl, up_d b1 b2] at d2
 rw [show (p.add q).x = sx p q from rfl, show (p.add q).y = sy p q from rfl, up_e a1 a2] at f1
 rw [show (q.add r).x = sx q r from rfl, show (q.add r).y = sy q r from rfl, up_e b1 b2] at f2
 rw [add_comm' p (q.add r)]
 refine Pt.ext ?_ ?_
 ·exact cross (up_x a1 a2 (sx_mul (p.add q) r)) (up_x b1 b2 (sx_mul (q.add r) p)) (as_x p.on q.on r.on) d1 d2
 ·exact cross (up_y a1 a2 (sy_mul (p.add q) r)) (up_y b1 b2 (sy_mul (q.add r) p)) (as_y p.on q.on r.on) f1 f2
def Pt.mul (p : Pt) : Nat → Pt
 | 0 => zeroP
 | n + 1 => (p.mul n).add p
theorem mul_add' (p : Pt) (m : Nat) : ∀ n, p.mul (m + n) = (p.mul m).add (p.mul n)
 | 0 => (add_zero' _).symm
 | n + 1 => by
  show (p.mul (m + n)).add p = (p.mul m).add ((p.mul n).add p)
  rw [mul_add' p m n, add_assoc']
theorem zero_mul' : ∀ n, zeroP.mul n = zeroP
 | 0 => rfl
 | n + 1 => by
  show (zeroP.mul n).add zeroP = zeroP
  rw [add_zero', zero_mul' n]
theorem mul_mul' (p : Pt) (m : Nat) : ∀ n, p.mul (m * n) = (p.mul m).mul n
 | 0 => rfl
 | n + 1 => by
  show p.mul (m * n + m) = ((p.mul m).mul n).add (p.mul m)
  rw [mul_add', mul_mul' p m n]
def toF (a : Int) : Fq := ⟨(a % Pm).toNat, by have := pmod a; have := pN_P; omega⟩
theorem toF_val (a : Int) : (((toF a).val : Nat) : Int) = a % Pm := by
 show (((a % Pm).toNat : Nat) : Int) = a % Pm
 have := pmod a
 omega
theorem fq_int {a b : Fq} (h : ((a.val : Nat) : Int) = ((b.val : Nat) : Int)) : a = b := Fin.ext (by omega)
theorem toF_mod (a : Int) : toF (a % Pm) = toF a := by
 refine fq_int ?_
 rw [toF_val, toF_val, Int.emod_emod_of_dvd _ (Int.dvd_refl _)]
theorem toF_add (a b : Int) : toF (a + b) = toF a + toF b := by
 refine fq_int ?_
 rw [toF_val, Fin.val_add, Int.natCast_emod, Int.natCast_add, toF_val, toF_val, pN_P, ← Int.add_emod]
theorem toF_mul (a b : Int) : toF (a * b) = toF a * toF b := by
 refine fq_int ?_
 rw [toF_val, Fin.val_mul, Int.natCast_emod, Int.natCast_mul, toF_val, toF_val, pN_P, ← Int.mul_emod]
theorem toF_sub (a b : Int) : toF (a - b) = toF a - toF b := by
 have h := toF_add (a - b) b
 rw [show a - b + b = a by omega] at h
 rw [h]
 generalize toF (a - b) = u
 generalize toF b = v
 grind
theorem toF_inj {a b : Int} (ha : 0 ≤ a ∧ a < Pm) (hb : 0 ≤ b ∧ b < Pm) (h : toF a = toF b) : a = b := by
 have h2 := congrArg (fun x : Fq => ((x.val : Nat) : Int)) h
 simp only [toF_val] at h2
 rwa [Int.emod_eq_of_lt ha.1 ha.2, Int.emod_eq_of_lt hb.1 hb.2] at h2
theorem toF_zero : toF 0 = 0 := by decide +kernel
theorem toF_one : toF 1 = 1 := by decide +kernel
def hlf : Fq := finv 2
theorem hlf_two : 2 * hlf = 1 := finv_mul two_ne
theorem proj {X Z Y : Fq} (h : X * (1 - Y) = Z * (1 + Y)) (hne : ¬ (X = 0 ∧ Z = 0)) : ∃ l, l ≠ 0 ∧ X = l * (1 + Y) ∧ Z = l * (1 - Y) := by
 have hh := hlf_two
 have e1 : X = (X + Z) * hlf * (1 + Y) := by
  clear hne
  generalize hlf = t at *
  grind
 have e2 : Z = (X + Z) * hlf * (1 - Y) := by
  clear hne e1
  generalize hlf = t at *
  grind
 refine ⟨(X + Z) * hlf, fun h0 => hne ?_, e1, e2⟩
 rw [h0] at e1 e2
 clear h hne h0 hh
 exact ⟨by grind, by grind⟩
theorem dbl_id {d a x y Y l : Fq} (hd : d * (a + 1) = -a) (h : y * y - x * x = 1 + d * (x * x * (y * y))) (hY : Y * (1 - d * (x * x * (y * y))) = y * y + x * x) :
  (((l * (1 + y) + l * (1 - y)) * (l * (1 + y) + l * (1 - y))) * ((l * (1 + y) - l * (1 - y)) * (l * (1 + y) - l * (1 - y))) * (1 - Y)) * (1 - d * (x * x * (y * y)))
  = (((l * (1 + y) + l * (1 - y)) * (l * (1 + y) + l * (1 - y)) - (l * (1 + y) - l * (1 - y)) * (l * (1 + y) - l * (1 - y))) * ((l * (1 + y) + l * (1 - y)) * (l * (1 + y) + l * (1 - y)) + a * ((l * (1 + y) + l * (1 - y)) * (l * (1 + y) + l * (1 - y)) - (l * (1 + y) - l * (1 - y)) * (l * (1 + y) - l * (1 - y)))) * (1 + Y)) * (1 - d * (x * x * (y * y))) := by
 have e1 : (1 - Y) * (1 - d * (x * x * (y * y))) = 2 - 2 * (y * y) := by grind
 have e2 : (1 + Y) * (1 - d * (x * x * (y * y))) = 2 + 2 * (x * x) := by grind
 have e3 : y * y = (1 + a * (1 - y * y)) * (1 + x * x) := by
  clear e1 e2 hY
  grind
 have f1 : (l * (1 + y) + l * (1 - y)) = 2 * l := by grind
 have f2 : (l * (1 + y) - l * (1 - y)) = 2 * l * y := by grind
 rw [f1, f2]
 generalize 1 - d * (x * x * (y * y)) = v at *
 clear h hd hY f1 f2
 have g1 : 2 * l * (2 * l) * (2 * l * y * (2 * l * y)) * (1 - Y) * v = 16 * (l * l * (l * l)) * (y * y) * ((1 - Y) * v) := by grind
 have g2 : (2 * l * (2 * l) - 2 * l * y * (2 * l * y)) * (2 * l * (2 * l) + a * (2 * l * (2 * l) - 2 * l * y * (2 * l * y))) * (1 + Y) * v = 16 * (l * l * (l * l)) * (1 - y * y) * (1 + a * (1 - y * y)) * ((1 + Y) * v) := by grind
 rw [g1, g2, e1, e2]
 clear g1 g2 e1 e2
 have g3 : 16 * (l * l * (l * l)) * (1 - y * y) * (1 + a * (1 - y * y)) * (2 + 2 * (x * x)) = 32 * (l * l * (l * l)) * (1 - y * y) * ((1 + a * (1 - y * y)) * (1 + x * x)) := by
  clear e3
  grind
 rw [g3, ← e3]
 clear e3 g3
 grind
theorem add_id {d xp yp xq yq : Fq} (h1 : yp * yp - xp * xp = 1 + d * (xp * xp * (yp * yp))) (h2 : yq * yq - xq * xq = 1 + d * (xq * xq * (yq * yq))) :
  (yp + yq) * (yp + yq) * ((1 - d * (xp * xq * (yp * yq)) - (yp * yq + xp * xq)) * (1 + d * (xp * xq * (yp * yq)) - (yp * yq - xp * xq)))
  = (yq - yp) * (yq - yp) * ((1 - d * (xp * xq * (yp * yq)) + (yp * yq + xp * xq)) * (1 + d * (xp * xq * (yp * yq)) + (yp * yq - xp * xq))) := by
 grind
theorem sq_zero {a : Fq} (h : a * a = 0) : a = 0 := by
 rcases fq_mul h with h | h <;> exact h
theorem kst : dE * (toF 121665 + 1) = -toF 121665 := by decide +kernel
theorem kst_ne : toF 121665 + 1 ≠ 0 := by decide +kernel
theorem tm1 (l y : Fq) : (l * (1 + y) + l * (1 - y)) = 2 * l := by grind
theorem tm2 (l y : Fq) : (l * (1 + y) - l * (1 - y)) = 2 * l * y := by grind
theorem tm3 (l a : Fq) : (2 * l * (2 * l) - 2 * l * 0 * (2 * l * 0)) * (2 * l * (2 * l) + a * (2 * l * (2 * l) - 2 * l * 0 * (2 * l * 0))) = (2 * l * (2 * l)) * (2 * l * (2 * l)) * (a + 1) := by grind
theorem dbl_nz {a l y : Fq} (hl : l ≠ 0) (ha : a + 1 ≠ 0) : ¬ ((l * (1 + y) + l * (1 - y)) * (l * (1 + y) + l * (1 - y)) * ((l * (1 + y) - l * (1 - y)) * (l * (1 + y) - l * (1 - y))) = 0 ∧ ((l * (1 + y) + l * (1 - y)) * (l * (1 + y) + l * (1 - y)) - (l * (1 + y) - l * (1 - y)) * (l * (1 + y) - l * (1 - y))) * ((l * (1 + y) + l * (1 - y)) * (l * (1 + y) + l * (1 - y)) + a * ((l * (1 + y) + l * (1 - y)) * (l * (1 + y) + l * (1 - y)) - (l * (1 + y) - l * (1 - y)) * (l * (1 + y) - l * (1 - y)))) = 0) := by
 rw [tm1, tm2]
 intro ⟨h1, h2⟩
 have h2l := fq_ne two_ne hl
 have hy : y = 0 := by
  rcases fq_mul h1 with h | h
  ·exact absurd (sq_zero h) h2l
  ·rcases fq_mul (sq_zero h) with h | h
   ·exact absurd h h2l
   ·exact h
 rw [hy, tm3] at h2
 exact fq_ne (fq_ne (fq_ne h2l h2l) (fq_ne h2l h2l)) ha h2
theorem tm4 {A B C D u v X S yD : Fq} (hS1 : A = u * (1 - S)) (hS2 : B = u * (1 + S)) (hD1 : C = v * (1 - yD)) (hD2 : D = v * (1 + yD)) (hX : X * (1 - yD) = 1 + yD) {s t : Fq} (h : s * (A * C) = t * (B * D)) : s * (1 - S) * (u * v * (1 - yD)) = X * t * (1 + S) * (u * v * (1 - yD)) := by
 rw [← hX] at hD2
 rw [hS1, hS2, hD1, hD2] at h
 clear hS1 hS2 hD1 hD2 hX
 grind
theorem tm5 {u S t : Fq} (h : S * u = t) : u - t = u * (1 - S) := by grind
theorem tm6 {u S t : Fq} (h : S * u = t) : u + t = u * (1 + S) := by grind
theorem tm7 {k l yp yq S X : Fq} (h : (yp + yq) * (yp + yq) * (1 - S) = X * ((yq - yp) * (yq - yp)) * (1 + S)) :
  (2 * k * yq * (2 * l) + 2 * k * (2 * l * yp)) * (2 * k * yq * (2 * l) + 2 * k * (2 * l * yp)) * (1 - S) = X * ((2 * k * yq * (2 * l) - 2 * k * (2 * l * yp)) * (2 * k * yq * (2 * l) - 2 * k * (2 * l * yp))) * (1 + S) := by
 have e1 : (2 * k * yq * (2 * l) + 2 * k * (2 * l * yp)) * (2 * k * yq * (2 * l) + 2 * k * (2 * l * yp)) * (1 - S) = 16 * (k * k * (l * l)) * ((yp + yq) * (yp + yq) * (1 - S)) := by
  clear h
  grind
 have e2 : X * ((2 * k * yq * (2 * l) - 2 * k * (2 * l * yp)) * (2 * k * yq * (2 * l) - 2 * k * (2 * l * yp))) * (1 + S) = 16 * (k * k * (l * l)) * (X * ((yq - yp) * (yq - yp)) * (1 + S)) := by
  clear h e1
  grind
 rw [e1, e2, h]
theorem tm8 (k l yp yq : Fq) : 2 * k * yq * (2 * l) + 2 * k * (2 * l * yp) = 2 * k * (2 * l) * (yp + yq) := by grind
theorem tm9 (k l yp yq : Fq) : 2 * k * yq * (2 * l) - 2 * k * (2 * l * yp) = 2 * k * (2 * l) * (yq - yp) := by grind
theorem tm10 {yp yq : Fq} (h1 : yp + yq = 0) (h2 : yq - yp = 0) : 2 * yp = 0 ∧ 2 * yq = 0 := by
 constructor <;> grind
theorem u4a (z : Fq) : z * 0 = 0 := by grind
theorem u0a {u v z : Fq} (h : z - u = v + z) : u + v = 0 := by grind
theorem u1a {d u : Fq} (h : (0 : Fq) * 0 - u = 1 + d * (u * (0 * 0))) : u + 1 = 0 := by
 rw [zz, u4a, u4a] at h
 exact u0a h
theorem u2a {d u v : Fq} (h : v * (1 + d * (u * (0 * 0))) = 0 * 0 - u) : v + u = 0 := by grind
theorem u3a {u v w z : Fq} (h1 : u * u + 1 = 0) (h2 : w * w + 1 = 0) (h3 : v + u * w = 0) : (1 - v) * (1 + v) = z * 0 := by grind
theorem tm11 {d xp xq yD : Fq} (h1 : (0 : Fq) * 0 - xp * xp = 1 + d * (xp * xp * (0 * 0))) (h2 : (0 : Fq) * 0 - xq * xq = 1 + d * (xq * xq * (0 * 0))) (hD : yD * (1 + d * (xp * xq * (0 * 0))) = 0 * 0 - xp * xq) : (1 - yD) * (1 + yD) = 0 :=
 (u3a (z := d) (u1a h1) (u1a h2) (u2a hD)).trans (u4a d)
theorem u5a {w z t : Fq} (hi : z * t = 1) : w = t * (w * z) := by grind
theorem u6a (z t : Fq) : z * t = t * z := by grind
theorem add_nz {k l X yD : Fq} {p r : Pt} (hk : k ≠ 0) (hl : l ≠ 0) (hX0 : X ≠ 0) (hX : X * (1 - yD) = 1 + yD) (hD1 : 1 - yD ≠ 0) (hD : yD * (1 + dE * (p.x * r.x * (p.y * r.y))) = p.y * r.y - p.x * r.x) :
  ¬ ((2 * k * r.y * (2 * l) + 2 * k * (2 * l * p.y)) * (2 * k * r.y * (2 * l) + 2 * k * (2 * l * p.y)) = 0 ∧ X * ((2 * k * r.y * (2 * l) - 2 * k * (2 * l * p.y)) * (2 * k * r.y * (2 * l) - 2 * k * (2 * l * p.y))) = 0) := by
 rw [tm8, tm9]
 intro ⟨h1, h2⟩
 have hkl := fq_ne (fq_ne two_ne hk) (fq_ne two_ne hl)
 have a1 : p.y + r.y = 0 := by
  rcases fq_mul (sq_zero h1) with h | h
  ·exact absurd h hkl
  ·exact h
 have a2 : r.y - p.y = 0 := by
  rcases fq_mul h2 with h | h
  ·exact absurd h hX0
  ·rcases fq_mul (sq_zero h) with h | h
   ·exact absurd h hkl
   ·exact h
 obtain ⟨b1, b2⟩ := tm10 a1 a2
 have c1 : p.y = 0 := by
  rcases fq_mul b1 with h | h
  ·exact absurd h two_ne
  ·exact h
 have c2 : r.y = 0 := by
  rcases fq_mul b2 with h | h
  ·exact absurd h two_ne
  ·exact h
 have o1 := p.on
 have o2 := r.on
 unfold On at o1 o2
 rw [c1] at o1 hD
 rw [c2] at o2 hD
 rcases fq_mul (tm11 o1 o2 hD) with h | h
 ·exact hD1 h
 ·rw [h] at hX
  rcases fq_mul hX with h | h
  ·exact hX0 h
  ·exact hD1 h
def Tl (X Z : Int) (y : Fq) : Prop := ∃ l, l ≠ 0 ∧ toF X = l * (1 + y) ∧ toF Z = l * (1 - y)
theorem step_tl {X1 : Int} {q : RS} {p r : Pt} {yD : Fq} (hp : Tl q.x2 q.z2 p.y) (hr : Tl q.x3 q.z3 r.y) (hX0 : toF X1 ≠ 0) (hX : toF X1 * (1 - yD) = 1 + yD) (hD1 : 1 - yD ≠ 0) (hD : yD * (1 + dE * (p.x * r.x * (p.y * r.y))) = p.y * r.y - p.x * r.x) :
  Tl (rstep X1 q).x2 (rstep X1 q).z2 (p.add p).y ∧ Tl (rstep X1 q).x3 (rstep X1 q).z3 (p.add r).y := by
 obtain ⟨l, hl, e1, e2⟩ := hp
 obtain ⟨k, hk, e3, e4⟩ := hr
 refine ⟨?_, ?_⟩
 ·show ∃ l, l ≠ 0 ∧ toF (rstep X1 q).x2 = l * (1 + sy p p) ∧ toF (rstep X1 q).z2 = l * (1 - sy p p)
  have E1 : toF (rstep X1 q).x2 = (l * (1 + p.y) + l * (1 - p.y)) * (l * (1 + p.y) + l * (1 - p.y)) * ((l * (1 + p.y) - l * (1 - p.y)) * (l * (1 + p.y) - l * (1 - p.y))) := by
   simp only [rstep, toF_mod, toF_mul, toF_add, toF_sub, e1, e2]
  have E2 : toF (rstep X1 q).z2 = ((l * (1 + p.y) + l * (1 - p.y)) * (l * (1 + p.y) + l * (1 - p.y)) - (l * (1 + p.y) - l * (1 - p.y)) * (l * (1 + p.y) - l * (1 - p.y))) * ((l * (1 + p.y) + l * (1 - p.y)) * (l * (1 + p.y) + l * (1 - p.y)) + toF 121665 * ((l * (1 + p.y) + l * (1 - p.y)) * (l * (1 + p.y) + l * (1 - p.y)) - (l * (1 + p.y) - l * (1 - p.y)) * (l * (1 + p.y) - l * (1 - p.y)))) := by
   simp only [rstep, toF_mod, toF_mul, toF_add, toF_sub, e1, e2]
  rw [E1, E2]
  exact proj (fq_cancel (den_minus p.on p.on) (dbl_id kst p.on (sy_mul p p))) (dbl_nz hl kst_ne)
 ·show ∃ l, l ≠ 0 ∧ toF (rstep X1 q).x3 = l * (1 + sy p r) ∧ toF (rstep X1 q).z3 = l * (1 - sy p r)
  have E1 : toF (rstep X1 q).x3 = (2 * k * r.y * (2 * l) + 2 * k * (2 * l * p.y)) * (2 * k * r.y * (2 * l) + 2 * k * (2 * l * p.y)) := by
   simp only [rstep, toF_mod, toF_mul, toF_add, toF_sub, e1, e2, e3, e4, tm1, tm2]
  have E2 : toF (rstep X1 q).z3 = toF X1 * ((2 * k * r.y * (2 * l) - 2 * k * (2 * l * p.y)) * (2 * k * r.y * (2 * l) - 2 * k * (2 * l * p.y))) := by
   simp only [rstep, toF_mod, toF_mul, toF_add, toF_sub, e1, e2, e3, e4, tm1, tm2]
  rw [E1, E2]
  refine proj (tm7 ?_) (add_nz hk hl hX0 hX hD1 hD)
  have hS := sy_mul p r
  refine fq_cancel (fq_ne (fq_ne (den_minus p.on r.on) (den_plus p.on r.on)) hD1) ?_
  exact tm4 (tm5 hS) (tm6 hS) (tm5 hD) (tm6 hD) hX (add_id p.on r.on)
theorem diff_y {p P : Pt} : P.y * (1 + dE * (p.x * (p.add P).x * (p.y * (p.add P).y))) = p.y * (p.add P).y - p.x * (p.add P).x := by
 have e : (p.add P).add p.neg = P := by rw [add_comm' p P, add_assoc', add_neg', add_zero']
 have h := sy_mul (p.add P) p.neg
 have hy : sy (p.add P) p.neg = P.y := congrArg Pt.y e
 rw [hy] at h
 rw [show p.neg.x = -p.x from rfl, show p.neg.y = p.y from rfl] at h
 generalize (p.add P).x = a at *
 generalize (p.add P).y = b at *
 generalize P.y = c at *
 clear e hy
 generalize p.x = u at *
 generalize p.y = v at *
 grind
def nk (K : Yb) : Nat → Nat
 | 0 => 0
 | k + 1 => 2 * nk K k + (bit K (254 - k)).toNat
theorem hlf_ne : hlf ≠ 0 := by decide +kernel
theorem l1a : toF 1 = hlf * (1 + 1) := by decide +kernel
theorem l0a : toF 0 = hlf * (1 - 1) := by decide +kernel
theorem tl0 : Tl 1 0 1 := ⟨hlf, hlf_ne, l1a, l0a⟩
theorem lad_tl (K : Yb) {X1 : Int} {P : Pt} (hX0 : toF X1 ≠ 0) (hX : toF X1 * (1 - P.y) = 1 + P.y) (hD1 : 1 - P.y ≠ 0) :
  ∀ k, Tl (rladF K X1 k).x2 (rladF K X1 k).z2 (P.mul (nk K k)).y ∧ Tl (rladF K X1 k).x3 (rladF K X1 k).z3 (P.mul (nk K k + 1)).y
 | 0 => by
  refine ⟨tl0, ?_⟩
  ·have e : P.mul (0 + 1) = P := by
    show zeroP.add P = P
    rw [add_comm', add_zero']
   show Tl X1 1 (P.mul (0 + 1)).y
   rw [e]
   have hi := finv_mul hD1
   refine ⟨finv (1 - P.y), fun h => ?_, ?_, ?_⟩
   ·rw [h] at hi
    exact one_ne (hi.symm.trans (u4a _))
   ·rw [← hX]
    exact u5a hi
   ·rw [toF_one]
    exact hi.symm.trans (u6a _ _)
 | k + 1 => by
  obtain ⟨h1, h2⟩ := lad_tl K hX0 hX hD1 k
  have hn : P.mul (nk K k + 1) = (P.mul (nk K k)).add P := rfl
  unfold rladF
  rcases bit_two K (254 - k) with hb | hb
  ·rw [if_pos hb]
   have e1 : nk K (k + 1) = nk K k + nk K k := by
    show 2 * nk K k + (bit K (254 - k)).toNat = _
    rw [hb]
    show 2 * nk K k + 0 = _
    omega
   have e2 : nk K (k + 1) + 1 = nk K k + (nk K k + 1) := by omega
   rw [e2, mul_add', e1, mul_add']
   exact step_tl h1 h2 hX0 hX hD1 (by rw [hn]; exact diff_y)
  ·rw [if_neg (by rw [hb]; decide)]
   have e1 : nk K (k + 1) = nk K k + 1 + nk K k := by
    show 2 * nk K k + (bit K (254 - k)).toNat = _
    rw [hb]
    show 2 * nk K k + 1 = _
    omega
   have e2 : nk K (k + 1) + 1 = nk K k + 1 + (nk K k + 1) := by omega
   rw [e2, mul_add', e1, mul_add']
   have hd : P.y * (1 + dE * ((P.mul (nk K k + 1)).x * (P.mul (nk K k)).x * ((P.mul (nk K k + 1)).y * (P.mul (nk K k)).y))) = (P.mul (nk K k + 1)).y * (P.mul (nk K k)).y - (P.mul (nk K k + 1)).x * (P.mul (nk K k)).x := by
    have h := diff_y (p := P.mul (nk K k)) (P := P)
    rw [← hn] at h
    generalize (P.mul (nk K k + 1)).x = a at *
    generalize (P.mul (nk K k + 1)).y = b at *
    generalize (P.mul (nk K k)).x = u at *
    generalize (P.mul (nk K k)).y = v at *
    generalize P.y = c at *
    clear hX hD1 h1 h2 hn
    grind
   have h3 := step_tl (q := (rladF K X1 k).swap) h2 h1 hX0 hX hD1 hd
   exact ⟨h3.2, h3.1⟩
def baseP : Pt := ⟨42783823269122696939284341094755422415180979639778424813682678720006717057747, 46316835694926478169428394003475163141307993866256225615783033603165251855960, by unfold On; decide +kernel⟩
theorem nine_base : toF 9 * (1 - baseP.y) = 1 + baseP.y := by decide +kernel
theorem nine_ne : toF 9 ≠ 0 := by decide +kernel
theorem base_ne : 1 - baseP.y ≠ 0 := by decide +kernel
theorem y_one {P : Pt} (h : 1 - P.y = 0) : P = zeroP := by
 have hy : P.y = 1 := n4 h
 have ho := P.on
 unfold On at ho
 rw [hy] at ho
 have e : (dE + 1) * (P.x * P.x) = 0 := by
  generalize P.x = u at *
  generalize dE = d at *
  clear hy h
  grind
 have hd : dE + 1 ≠ 0 := by decide +kernel
 have hx : P.x = 0 := by
  rcases fq_mul e with h1 | h1
  ·exact absurd h1 hd
  ·exact sq_zero h1
 exact Pt.ext hx hy
theorem y_minus {P : Pt} (h : 1 + P.y = 0) : P.add P = zeroP := by
 have hy : P.y = -1 := n3 h
 have ho := P.on
 unfold On at ho
 rw [hy] at ho
 have e : (dE + 1) * (P.x * P.x) = 0 := by
  generalize P.x = u at *
  generalize dE = d at *
  clear hy h
  grind
 have hd : dE + 1 ≠ 0 := by decide +kernel
 have hx : P.x = 0 := by
  rcases fq_mul e with h1 | h1
  ·exact absurd h1 hd
  ·exact sq_zero h1
 refine add_eq ?_ ?_
 ·rw [hx, hy]
  decide +kernel
 ·rw [hx, hy]
  decide +kernel
def oB : ByteArray := lebytes 7237005577332262213973186563042994240857116359379907606001950938285454250989
def oN : Nat := 7237005577332262213973186563042994240857116359379907606001950938285454250989
theorem oB_n : nk oB 255 = oN := by decide +kernel
theorem oB_z : (rladF oB 9 255).z2 = 0 := by decide +kernel
theorem ord_zero : baseP.mul oN = zeroP := by
 obtain ⟨l, hl, _, h2⟩ := (lad_tl oB nine_ne nine_base base_ne 255).1
 rw [oB_z, oB_n, toF_zero] at h2
 rcases fq_mul h2.symm with h | h
 ·exact absurd h hl
 ·exact y_one h
theorem base_nz : baseP ≠ zeroP := fun h => base_ne (by rw [h]; decide +kernel)
theorem isO : IsP oN := isL
theorem ord_dvd {k : Nat} (h : baseP.mul k = zeroP) : oN ∣ k := by
 have hg : baseP.mul (Nat.gcd oN k) = zeroP := by
  have key : ∀ (m n : Nat), baseP.mul m = zeroP → baseP.mul n = zeroP → baseP.mul (Nat.gcd m n) = zeroP := by
   intro m n
   induction m, n using Nat.gcd.induction with
   | H0 n => intro _ hn; rwa [Nat.gcd_zero_left]
   | H1 m n hm ih =>
    intro h1 h2
    rw [Nat.gcd_rec]
    refine ih ?_ h1
    have e : n = m * (n / m) + n % m := (Nat.div_add_mod n m).symm
    have h3 : baseP.mul n = (baseP.mul (m * (n / m))).add (baseP.mul (n % m)) := by
     conv => lhs; rw [e]
     rw [mul_add']
    rw [mul_mul', h1, zero_mul', add_comm', add_zero'] at h3
    rw [← h3]
    exact h2
  exact key oN k ord_zero h
 rcases isO.2 _ (Nat.gcd_dvd_left oN k) with h1 | h1
 ·exfalso
  rw [h1] at hg
  refine base_nz ?_
  have e : baseP.mul 1 = baseP := by
   show zeroP.add baseP = baseP
   rw [add_comm', add_zero']
  exact e.symm.trans hg
 ·have := Nat.gcd_dvd_right oN k
  rwa [h1] at this
theorem isO_mul {a b : Nat} (h : oN ∣ a * b) : oN ∣ a ∨ oN ∣ b := by
 by_cases ha : oN ∣ a
 ·exact .inl ha
 ·right
  have hg : Nat.Coprime oN a := by
   rcases isO.2 _ (Nat.gcd_dvd_left oN a) with h1 | h1
   ·exact h1
   ·exact absurd (h1 ▸ Nat.gcd_dvd_right oN a) ha
  exact Nat.Coprime.dvd_of_dvd_mul_left hg h
structure Tells (V : Int) (k : Nat) : Prop where
 bd : 0 ≤ V ∧ V < Pm
 nz : ¬ oN ∣ k
 eq : toF V * (1 - (baseP.mul k).y) = 1 + (baseP.mul k).y
theorem two_o : ¬ oN ∣ 2 := by decide
theorem mul_y {k : Nat} (h : ¬ oN ∣ k) : 1 - (baseP.mul k).y ≠ 0 ∧ 1 + (baseP.mul k).y ≠ 0 := by
 refine ⟨fun h1 => h (ord_dvd (y_one h1)), fun h1 => ?_⟩
 have h2 := y_minus h1
 rw [← mul_add'] at h2
 have h3 := ord_dvd h2
 rw [← Nat.two_mul] at h3
 rcases isO_mul h3 with h4 | h4
 ·exact two_o h4
 ·exact h h4
theorem Tells.ne {V : Int} {k : Nat} (h : Tells V k) : toF V ≠ 0 := fun h0 => by
 have h1 := h.eq
 rw [h0] at h1
 refine (mul_y h.nz).2 ?_
 rw [← h1, u6a, u4a]
theorem Tells.ne0 {V : Int} {k : Nat} (h : Tells V k) : V ≠ 0 := fun h0 => h.ne (by rw [h0]; exact toF_zero)
theorem Tells.one {V W : Int} {k : Nat} (h : Tells V k) (g : Tells W k) : V = W :=
 toF_inj h.bd g.bd (fq_cancel (mul_y h.nz).1 (h.eq.trans g.eq.symm))
theorem tells9 : Tells 9 1 := by
 have e : baseP.mul 1 = baseP := by
  show zeroP.add baseP = baseP
  rw [add_comm', add_zero']
 refine ⟨⟨by decide, by decide⟩, by decide, ?_⟩
 rw [e]
 exact nine_base
theorem toF_cg {a b : Int} (h : Cg a b) : toF a = toF b := by
 rw [← toF_mod a, ← toF_mod b, h.emod]
theorem pow_up (z : Int) (n m : Nat) (h : m = n + 1) : toF z * toF (z ^ n) = toF (z ^ m) := by
 subst h
 rw [← toF_mul, Int.pow_succ, Int.mul_comm]
theorem pw_inv {z : Int} (h : toF z ≠ 0) : toF z * toF (pwm z (xbit 255 21) 255) = 1 := by
 rw [toF_cg (pwm_pow z (xbit 255 21) 255), ex255]
 have hv : 0 < (toF z).val := Nat.pos_of_ne_zero fun e => h (Fin.ext (by rw [e]; rfl))
 have hf := fermatN hv (toF z).isLt
 have e1 : toF z * toF (z ^ (2 ^ 255 - 21)) = toF (z ^ (2 ^ 255 - 20)) := pow_up z (2 ^ 255 - 21) (2 ^ 255 - 20) (by decide)
 rw [e1]
 refine fq_int ?_
 rw [toF_val]
 have hz : Cg z (((toF z).val : Nat) : Int) := by
  rw [toF_val]
  exact em z
 rw [(hz.pow _).emod, ← Int.natCast_pow, ← pN_P, ← Int.natCast_emod, show (2 ^ 255 - 20 : Nat) = pN - 1 by decide, hf]
 rfl
theorem q1a {l t u v : Fq} (h : l * v * t = 1) : l * u * t * v = u := by grind
theorem Tells.lad {V : Int} {m : Nat} (h : Tells V m) (K : Yb) (hk : ¬ oN ∣ m * nk K 255) : Tells (shV K V) (m * nk K 255) := by
 refine ⟨shV_bd K V, hk, ?_⟩
 obtain ⟨l, hl, e1, e2⟩ := (lad_tl K h.ne h.eq (mul_y h.nz).1 255).1
 rw [← mul_mul'] at e1 e2
 have hz : toF (rladF K V 255).z2 ≠ 0 := by
  rw [e2]
  exact fq_ne hl (mul_y hk).1
 have hi := pw_inv hz
 unfold shV
 rw [toF_mod, toF_mul, e1]
 rw [e2] at hi
 exact q1a hi
open Go.RowKit
theorem leb_size (N : Int) : (lebytes N).size = 32 := by
 unfold lebytes
 rw [bs_size]
 rfl
theorem val_leb {W : Int} (hW : 0 ≤ W ∧ W < Pm) : val (mkS (lebytes W)) % Pm = W := by rw [leb_rb hW]; exact mk_leb hW
theorem sS_ne {V : Int} (h : V ≠ 0) : sS V = lebytes V := by unfold sS; rw [if_neg h]
theorem sC_ne {V : Int} (h : V ≠ 0) : sC V = 0 := by unfold sC; rw [if_neg h]
open Go.RowKit
def bsF (f : NI) : ByteArray := bs ((List.range 32).map f)
theorem bsF_bt {f : NI} (hf : ∀ i, i < 32 → 0 ≤ f i ∧ f i < 256) {i : Nat} (hi : i < 32) : bt (bsF f) i = f i :=
 bt_bs _ _ _ (by simp [hi]) (hf i hi).1 (hf i hi).2
open Go.RowKit
theorem cl_bt (s : Yb) {i : Nat} (hi : i < 32) : bt (clS s) i = clF s i := bsF_bt (fun i _ => clF_bd s i) hi
theorem cl_low {x : Int} (h0 : 0 ≤ x) (h1 : x < 256) : bits .and .u8 x 248 % 8 = 0 ∧ bits .or .u8 (bits .and .u8 x 127) 64 / 64 % 2 = 1 := by
 obtain ⟨X, rfl⟩ := Int.eq_ofNat_of_zero_le h0
 have hX : X < 256 := by omega
 have h : ∀ n : Fin 256, bits .and .u8 ((n.val : Nat) : Int) 248 % 8 = 0 ∧ bits .or .u8 (bits .and .u8 ((n.val : Nat) : Int) 127) 64 / 64 % 2 = 1 := by decide +kernel
 exact h ⟨X, hX⟩
theorem cl_254 (s : Yb) : bit (clS s) 254 = 1 := by
 show bt (clS s) 31 / 2 ^ 6 % 2 = 1
 rw [cl_bt s (by omega), show clF s 31 = bits .or .u8 (bits .and .u8 (bt s 31) 127) 64 by simp [clF, upd]]
 exact (cl_low (bt_bd s 31).1 (bt_bd s 31).2).2
theorem cl_012 (s : Yb) : bit (clS s) 0 = 0 ∧ bit (clS s) 1 = 0 ∧ bit (clS s) 2 = 0 := by
 have h := (cl_low (bt_bd s 0).1 (bt_bd s 0).2).1
 have e : bt (clS s) 0 = bits .and .u8 (bt s 0) 248 := by
  rw [cl_bt s (by omega)]
  simp [clF, upd]
 refine ⟨?_, ?_, ?_⟩
 ·show bt (clS s) 0 / 2 ^ 0 % 2 = 0
  rw [e]
  simp only [Int.pow_zero]
  omega
 ·show bt (clS s) 0 / 2 ^ 1 % 2 = 0
  rw [e, show (2 : Int) ^ 1 = 2 by decide]
  omega
 ·show bt (clS s) 0 / 2 ^ 2 % 2 = 0
  rw [e, show (2 : Int) ^ 2 = 4 by decide]
  omega
theorem nk_lt (K : Yb) : ∀ k, nk K k < 2 ^ k
 | 0 => by
  show 0 < 2 ^ 0
  decide
 | k + 1 => by
  have ih := nk_lt K k
  show 2 * nk K k + (bit K (254 - k)).toNat < _
  rw [Nat.pow_succ]
  rcases bit_two K (254 - k) with h | h <;> rw [h]
  ·show 2 * nk K k + 0 < _
   omega
  ·show 2 * nk K k + 1 < _
   omega
theorem nk_ge (K : Yb) (h : bit K 254 = 1) : ∀ k, 2 ^ k ≤ nk K (k + 1)
 | 0 => by
  show 1 ≤ 2 * 0 + (bit K 254).toNat
  rw [h]
  decide
 | k + 1 => by
  have ih := nk_ge K h k
  show _ ≤ 2 * nk K (k + 1) + (bit K (254 - (k + 1))).toNat
  rw [Nat.pow_succ]
  omega
theorem cl_n (s : Yb) : nk (clS s) 255 = 8 * nk (clS s) 252 := by
 obtain ⟨h0, h1, h2⟩ := cl_012 s
 show 2 * (2 * (2 * nk (clS s) 252 + (bit (clS s) 2).toNat) + (bit (clS s) 1).toNat) + (bit (clS s) 0).toNat = _
 rw [h0, h1, h2]
 show 2 * (2 * (2 * nk (clS s) 252 + 0) + 0) + 0 = _
 omega
theorem cl_nd (s : Yb) : ¬ oN ∣ nk (clS s) 255 := by
 rw [cl_n]
 intro h
 rcases isO_mul h with h1 | h1
 ·revert h1
  decide
 ·have h2 := nk_lt (clS s) 252
  have h3 : 2 ^ 251 ≤ nk (clS s) 252 := nk_ge (clS s) (cl_254 s) 251
  have h6 : 0 < nk (clS s) 252 := Nat.lt_of_lt_of_le (by decide) h3
  have h4 : oN ≤ nk (clS s) 252 := Nat.le_of_dvd h6 h1
  have h5 : (2 : Nat) ^ 252 < oN := by decide
  exact absurd (Nat.lt_of_le_of_lt h4 h2) (Nat.lt_asymm h5)
theorem nd_mul {a b : Nat} (ha : ¬ oN ∣ a) (hb : ¬ oN ∣ b) : ¬ oN ∣ a * b := fun h => by
 rcases isO_mul h with h | h
 ·exact ha h
 ·exact hb h
theorem Tells.cl {V : Int} {m : Nat} (h : Tells V m) (s : Yb) : Tells (shV (clS s) V) (m * nk (clS s) 255) := h.lad _ (nd_mul h.nz (cl_nd s))
theorem Tells.swap {V : Int} {m : Nat} (h : Tells V m) (a b : Yb) : shV (clS a) (shV (clS b) V) = shV (clS b) (shV (clS a) V) := by
 have h1 := (h.cl b).cl a
 have h2 := (h.cl a).cl b
 rw [Nat.mul_assoc, Nat.mul_comm (nk (clS a) 255), ← Nat.mul_assoc] at h2
 exact h1.one h2
end Go.Proofs.YtiahdbibeleakaaGreatDoor.Mon
namespace Go.Proofs.YtiahdbibeleakaaGreatDoor
open Go.RowKit
theorem l_same0 {m : Mon.E5} (hm : m.Ok) (h : m.n % Mon.Pm = 0) (w : World) : Cs 94 #[.agg (av 5 (w64 m.f)), .agg (av 5 (w64 (fun _ => 0)))] w (.bool true) := by
 have := Mon.same_any m Mon.zeroE w hm Mon.zeroE_ok
 rw [Mon.zeroE_n, h] at this
 exact this
theorem l_sameN {m : Mon.E5} (hm : m.Ok) (h : ¬ m.n % Mon.Pm = 0) (w : World) : Cs 94 #[.agg (av 5 (w64 m.f)), .agg (av 5 (w64 (fun _ => 0)))] w (.bool false) := by
 have := Mon.same_any m Mon.zeroE w hm Mon.zeroE_ok
 rw [Mon.zeroE_n, show (0 : Int) % Mon.Pm = 0 from rfl, show (m.n % Mon.Pm == 0) = false by simpa using h] at this
 exact this
theorem l_shared (s p : Yb) (hs : s.size = 32) (hp : p.size = 32) (w : World) (hL : Laid w)  : Cs 63 #[.string s, .string p] w (.tuple #[.string (Mon.shS s p), .int .i64 (Mon.shC s p)]) := by
 go_enter Tryz.func63, Tryz.ntmps63
 have M := Mem.start hL
 refine sq <| sR <| rV 1 <| pD M 12 (.tuple #[.string (Mon.clS s), .int .i64 0]) (fun w M => Mon.clamp_yes s w hs) fun u1 M => rV 5 <| nT <| wp_seq <| sq <| cF <| wp_skip <| au_then <| sR <| rV 1 <| pD M 20 (.tuple #[.agg (av 5 (w64 (Mon.ofF (Mon.mkS p)).f)), .int .i64 0]) (fun w M => l_coord p hp w M.laid) fun u2 M => rV 3 <| pN M 8 (.cells (av 5 (w64 (fun _ => 0))) 143) fun g1 u3 M => ?_
 refine ZG M 0 5 (w64 (Mon.ofF (Mon.mkS p)).f) fun u4 M => rV 1 <| nT <| wp_seq <| sq <| cF <| wp_skip <| au_then ?_
 refine sR <| rV 1 <| pB M 27 0 <| pC M 28 93 #[.string (Mon.clS s), .agg (av 5 (w64 (Mon.ofF (Mon.mkS p)).f))] (.agg (av 5 (w64 (Mon.shE s p).f))) (fun w M => l_times (Mon.clS s) (Mon.ofF (Mon.mkS p)) (Mon.clS_size s) (Mon.ofF_ok _) w M.laid) fun u5 M => pN M 9 (.cells (av 5 (w64 (fun _ => 0))) 143) fun g2 u6 M => ZG M 1 5 (w64 (Mon.shE s p).f) fun u7 M => nT <| wp_seq ?_
 refine sR <| pB M 29 1 <| rV 1 ?_
 by_cases c0 : ((Mon.shE s p).n % Mon.Pm) = 0
 ·refine pD M 31 (.bool true) (fun w M => l_same0 (Mon.shE_ok s p) c0 w) fun u8 M => nT <| cT <| sq <| wp_ret <| au_then_ret ?_
  have e0 : (Mon.shS s p) = ⟨#[]⟩ := by first | (simp only [Mon.shS, if_pos c0]; done) | simp [Mon.shS, c0]
  have e1 : (Mon.shC s p) = 30 := by first | (simp only [Mon.shC, if_pos c0]; done) | simp [Mon.shC, c0]
  exact bX (.tuple #[.string ⟨#[]⟩, .int .i64 30]) ⟨by rw [e0, e1], below_grown M.old⟩
 ·refine pD M 31 (.bool false) (fun w M => l_sameN (Mon.shE_ok s p) c0 w) fun u8 M => nT <| cF <| wp_skip <| au_then <| sR <| pB M 32 1 <| pD M 33 (.string (Mon.lebytes ((Mon.shE s p).n % Mon.Pm))) (fun w M => Mon.bytes_any (Mon.shE s p) w (Mon.shE_ok s p)) fun u9 M => rV 2 <| nT <| wp_ret ?_
  have e0 : (Mon.shS s p) = (Mon.lebytes ((Mon.shE s p).n % Mon.Pm)) := by first | (simp only [Mon.shS, if_neg c0]; done) | simp [Mon.shS, c0]
  have e1 : (Mon.shC s p) = 0 := by first | (simp only [Mon.shC, if_neg c0]; done) | simp [Mon.shC, c0]
  exact bX (.tuple #[.string (Mon.lebytes ((Mon.shE s p).n % Mon.Pm)), .int .i64 0]) ⟨by rw [e0, e1], below_grown M.old⟩
theorem Mon.shL (s p : Yb) (w : World) (hL : Laid w) (V : Int) (hs : s.size = 32) (hp : p.size = 32) (hV : Mon.shV (Mon.clS s) (Mon.val (Mon.mkS p) % Mon.Pm) = V) : Cs 63 #[.string s, .string p] w (.tuple #[.string (Mon.sS V), .int .i64 (Mon.sC V)]) := by
 have h := l_shared s p hs hp w hL
 rwa [Mon.shS_V, Mon.shC_V, hV] at h
theorem l_public (s S : Yb) (c : Int) (H : ∀ w, Laid w → Cs 63 #[.string s, .string Mon.nineS] w (.tuple #[.string S, .int .i64 c])) (w : World) (hL : Laid w)  : Cs 64 #[.string s] w (.tuple #[.string S, .int .i64 c]) := by
 go_enter Tryz.func64, Tryz.ntmps64
 have M := Mem.start hL
 refine sq <| sR <| rV 1 <| pD M 5 (.agg (av 5 (w64 (Mon.smallF 9).f))) (fun w M => Mon.small_any 9 w (by decide) (by decide)) fun u1 M => pD M 6 (.string Mon.nineS) (fun w M => Mon.bytes_any (Mon.smallF 9) w (Mon.smallF_ok (by decide) (by decide))) fun u2 M => pD M 7 (.tuple #[.string S, .int .i64 c]) (fun w M => H w M.laid) fun u3 M => rV 4 <| nT <| wp_ret ?_
 exact b1 M
theorem pub_tellsL (s : Yb) (hs : s.size = 32) (w : World) (hL : Laid w) : Cs 64 #[.string s] w (.tuple #[.string (Mon.lebytes (Mon.shV (Mon.clS s) 9)), .int .i64 0]) := by
 have h1 := l_public s _ _ (fun w hL => Mon.shL s Mon.nineS w hL (Mon.shV (Mon.clS s) 9) hs Mon.nineS_size (by rw [Mon.v9])) w hL
 rwa [Mon.sS_ne (Mon.tells9.cl s).ne0, Mon.sC_ne (Mon.tells9.cl s).ne0] at h1
open Go.RowKit
def ls (l : List Value) : Nat → Value := fun i => l.getD i undef
theorem getD_app (l : List Value) (j : Nat) : l.getD j undef = l[j]?.getD undef := by simp
theorem put_ls (l : List Value) (k : Nat) (v : Value) (l' : List Value) (h : l.set k v = l') {n : Nat} (j : Nat) (hj : j < n) (hl : n ≤ l.length := by exact Nat.le_of_ble_eq_true rfl) : (if j = k then v else ls l j) = ls l' j := by
 subst h
 unfold ls
 rw [getD_app, getD_app, List.getElem?_set]
 by_cases e : k = j
 ·subst e
  rw [if_pos rfl, if_pos rfl, if_pos (by omega)]
  rfl
 ·rw [if_neg (fun h => e h.symm), if_neg e]
theorem one_ls (l : List Value) (h : l.all (·.oneCell') = true) {n : Nat} (hn : n ≤ l.length := by exact Nat.le_of_ble_eq_true rfl) (j : Nat) (hj : j < n) : (ls l j).oneCell' = true := by
 unfold ls
 rw [getD_app, List.getElem?_eq_getElem (by omega)]
 exact List.all_eq_true.1 h _ (List.getElem_mem _)
theorem seq_pos {a b : Yb} (h : a = b) : (a.toList == b.toList) = true := by rw [h, beq_self_eq_true]
theorem seq_neg {a b : Yb} (h : ¬ a = b) : (a.toList == b.toList) = false := by
 rw [beq_eq_false_iff_ne]
 intro e
 rw [ByteArray.toList_eq, ByteArray.toList_eq] at e
 exact h (ByteArray.ext (Array.toList_inj.1 e))
theorem call_val {P : Program} {f : FuncId} {args : Array Value} {w : World} {v v' : Value} {X : World → Prop} (h : Calls P f args w fun e w' => e = .returned v ∧ X w') (hv : v = v') : Calls P f args w fun e w' => e = .returned v' ∧ X w' := hv ▸ h
theorem ro_below1 {w w' : World} {g : Nat} {Z : Obj} (h : Grw w w' [g]) (h0 : w.heap[g]? = some Z) (h1 : w'.heap[g]? = some Z) : Below w.heap.size w w' := ⟨h.os, h.tape, h.output, h.size, fun k hk => by
 by_cases e : k = g
 ·subst e
  rw [h0, h1]
 ·exact h.block k hk (by simpa using e)⟩
theorem results_t3 {P : Program} {fn : Func} {p q r : Tmp} (h : fn.results = #[.tmp p, .tmp q, .tmp r]) (tmps : Array Value) (w : World) (v u x : Value) (hp : tmps.getD p undef = v) (hq : tmps.getD q undef = u) (hr : tmps.getD r undef = x) : (results fn tmps).run P w = .ok (.tuple #[v, u, x]) w := by
 subst hp hq hr
 simp [results, h]
theorem results_tct {P : Program} {fn : Func} {p q r : Tmp} {ty : TypeId} (h : fn.results = #[.tmp p, .cell q ty, .tmp r]) (tmps : Array Value) (w : World) (g : Nat) (t : TypeId) (cs : Array Value) (fr : Nat × Nat) (d : TypeDesc) (v x : Value) (hp : tmps.getD p undef = v) (hq : tmps.getD q undef = .pointer (some ⟨g, 0, none⟩)) (hr : tmps.getD r undef = x) (hg : w.heap[g]? = some (.cells cs t fr))
  (hu : P.underlying ty = some d) (hd : (match d with | .struct _ | .array _ _ => true | _ => false) = true) (hi : (P.info? ty).map (·.size) = some cs.size) : (results fn tmps).run P w = .ok (.tuple #[v, .agg cs, x]) w := by
 subst hp hr
 have hp' : tmps[q]?.getD undef = .pointer (some ⟨g, 0, none⟩) := by simpa using hq
 simp [results, h, hp', asAddr, run_loadVar_row w g t ty cs fr d hg hu hd hi]
theorem inz61 : (Tryz.prog.info? 61).map (·.size) = some 5 := by kernel_rfl
theorem inz87 : (Tryz.prog.info? 87).map (·.size) = some 4 := by kernel_rfl
structure St where
 h : ByteArray
 c : ByteArray
 k : ByteArray
 e : Int
def stL (s : St) (R : List Value) : Nat → Value := ls (.string s.h :: .string s.c :: .string s.k :: .int .i64 s.e :: R)
theorem put_st0 (s : St) (R : List Value) (x : Yb) (j : Nat) : (if j = 0 then .string x else stL s R j) = stL ⟨x, s.c, s.k, s.e⟩ R j := by
 rcases j with _ | _ | _ | _ | j <;> first | rfl | (rw [if_neg (by omega)]; rfl)
theorem put_st1 (s : St) (R : List Value) (x : Yb) (j : Nat) : (if j = 1 then .string x else stL s R j) = stL ⟨s.h, x, s.k, s.e⟩ R j := by
 rcases j with _ | _ | _ | _ | j <;> first | rfl | (rw [if_neg (by omega)]; rfl)
theorem put_st2 (s : St) (R : List Value) (x : Yb) (j : Nat) : (if j = 2 then .string x else stL s R j) = stL ⟨s.h, s.c, x, s.e⟩ R j := by
 rcases j with _ | _ | _ | _ | j <;> first | rfl | (rw [if_neg (by omega)]; rfl)
theorem put_st3 (s : St) (R : List Value) (x : Int) (j : Nat) : (if j = 3 then .int .i64 x else stL s R j) = stL ⟨s.h, s.c, s.k, x⟩ R j := by
 rcases j with _ | _ | _ | _ | j <;> first | rfl | (rw [if_neg (by omega)]; rfl)
theorem part_st (s : St) (R : List Value) (j : Nat) (h : j < 4) : stL s R (0 + j) = stL s [] j := by
 rcases j with _ | _ | _ | _ | j <;> first | rfl | omega
theorem one_st (s : St) (j : Nat) (h : j < 4) : (stL s [] j).oneCell' = true := by
 rcases j with _ | _ | _ | _ | j <;> first | rfl | omega
def Bh (t : Yb) : ByteArray := Bla.blV 32 Bla.strE t
theorem Bh_size (t : Yb) : (Bh t).size = 32 := Bla.bl_size t
theorem c_Bh (t : Yb) (w : World) (hL : Laid w) : Cs 62 #[.string t] w (.string (Bh t)) := Bla.c_of t w hL
def nameS : ByteArray := ⟨#[78, 111, 105, 115, 101, 95, 73, 75, 95, 50, 53, 53, 49, 57, 95, 67, 104, 97, 67, 104, 97, 80, 111, 108, 121, 95, 66, 76, 65, 75, 69, 50, 115]⟩
def shN (x y : Yb) : Int := Mon.shV (Mon.clS x) (Mon.val (Mon.mkS y) % Mon.Pm)
def puV (x : Yb) : ByteArray := Mon.lebytes (Mon.shV (Mon.clS x) 9)
theorem puV_size (x : Yb) : (puV x).size = 32 := Mon.leb_size _
def nxA (c t : Yb) : ByteArray := Bla.txt c t 0
def nxB (c t : Yb) : ByteArray := Bla.txt c t 1
def n0 : ByteArray := nS 0
def mixF (s : St) (t : Yb) : St := ⟨Bh (s.h ++ t), s.c, s.k, s.e⟩
def beginF (pr pu : Yb) (s : St) : St := mixF (mixF ⟨Bh nameS, Bh nameS, s.k, s.e⟩ pr) pu
def pubF (s : St) (x : Yb) : ByteArray := if s.e = 0 then puV x else ⟨#[]⟩
def addF (s : St) (x y : Yb) : St := if s.e = 0 then (if shN x y = 0 then ⟨s.h, s.c, s.k, 30⟩ else ⟨s.h, nxA s.c (Mon.lebytes (shN x y)), nxB s.c (Mon.lebytes (shN x y)), s.e⟩) else s
def sealV (s : St) (t : Yb) : ByteArray := if s.e = 0 then sealS s.k n0 s.h t else ⟨#[]⟩
def sealF (s : St) (t : Yb) : St := if s.e = 0 then mixF ⟨s.h, s.c, s.k, 0⟩ (sealS s.k n0 s.h t) else s
def openV (s : St) (t : Yb) : ByteArray := if s.e = 0 then (if tgX s.k n0 s.h t = t.extract (t.size - 16) t.size then opS s.k n0 t else ⟨#[]⟩) else ⟨#[]⟩
def openF (s : St) (t : Yb) : St := if s.e = 0 then (if tgX s.k n0 s.h t = t.extract (t.size - 16) t.size then mixF ⟨s.h, s.c, s.k, 0⟩ t else mixF ⟨s.h, s.c, s.k, 100⟩ t) else s
theorem st_eq {a b : St} (h1 : a.h = b.h) (h2 : a.c = b.c) (h3 : a.k = b.k) (h4 : a.e = b.e) : a = b := by
 cases a; cases b
 simp only at h1 h2 h3 h4
 subst h1 h2 h3 h4
 rfl
theorem c_shZ (x y : Yb) (hx : x.size = 32) (hy : y.size = 32) (h : shN x y = 0) (w : World) (hL : Laid w) : Cs 63 #[.string x, .string y] w (.tuple #[.string ⟨#[]⟩, .int .i64 30]) := Mon.shL x y w hL 0 hx hy h
theorem c_shN (x y : Yb) (hx : x.size = 32) (hy : y.size = 32) (h : ¬ shN x y = 0) (w : World) (hL : Laid w) : Cs 63 #[.string x, .string y] w (.tuple #[.string (Mon.lebytes (shN x y)), .int .i64 0]) := by
 have h1 := Mon.shL x y w hL (shN x y) hx hy rfl
 rwa [Mon.sS_ne h, Mon.sC_ne h] at h1
theorem nxA_size (c t : Yb) : (nxA c t).size = 32 := Bla.tg_size _ _ _
theorem nxB_size (c t : Yb) : (nxB c t).size = 32 := Bla.tg_size _ _ _
theorem n0_size : n0.size = 12 := nS_size 0
theorem sf_seal {k h t : Yb} (hk : k.size = 32) (hh : h.size = 32) (ht : t.size ≤ 65536) : sf k n0 h t 0 = 0 := sf_ok ⟨hk, n0_size⟩ (by omega) (by omega) (Nat.zero_le _)
theorem sf_open {k h t : Yb} (hk : k.size = 32) (hh : h.size = 32) (ht : t.size ≤ 65536) (h6 : 16 ≤ t.size) : sf k n0 h t 16 = 0 := sf_ok ⟨hk, n0_size⟩ (by omega) (by omega) h6
def endF (s : St) : St := ⟨s.h, s.c, ⟨#[]⟩, s.e⟩
abbrev zb : ByteArray := ⟨#[]⟩
abbrev sQ (l : List ByteArray) : Nat → Value := ls (l.map .string)
abbrev zq (n : Nat) : Nat → Value := ls (List.replicate n (.string ⟨#[]⟩))
section
variable {P : Program} {ops : Array Oper} {rest : List Oper} {o : Oper} {a : Act} {w : World} {c : Ctx} {L : List Blk} {Q : Exit → Act → World → Prop}
theorem ZL (M : Mem c L w) (i n : Nat) (F' : NV) {g T : Nat} {F : NV} (h : ∀ w2, Mem c (L.set i ⟨g, .cells (av n F') T⟩) w2 → PL P ops Q rest a w2) {ty : TypeId} {x y : Operand} (hw : Region.wanted o (yielded ops a.tmps) = true := by first | exact want_no rfl | kernel_rfl) (hd : o.dst = none := by exact rfl) (ho : o.op = .store ty x y := by exact rfl) (hi : L[i]? = some ⟨g, .cells (av n F) T⟩ := by exact rfl) (h1 : ∀ j, j < n → (F' j).oneCell' = true := by exact one_ls _ rfl) (hx : Ev a x (.pointer (some ⟨g, 0, none⟩)) := by exact ⟨by kernel_rfl⟩) (hy : Ev a y (.agg (av n F')) := by exact ⟨by kernel_rfl⟩) (hz : (P.info? ty).map (·.size) = some n := by kernel_rfl) : PL P ops Q (o :: rest) a w := pl_put M hw hd ty x y ho i g 0 hx.out n T F hi n F' F' hy.out hz (by omega) h1 (fun j hj => by rw [if_pos (by omega), Nat.sub_zero]) h
theorem btct {fn : Func} {Φ : Ending → World → Prop} {p q r : Tmp} {t1 : TypeId} (h : fn.results = #[.tmp p, .cell q t1, .tmp r]) (M : Mem c L w) (x0 : Value) (i1 n1 : Nat) (F1 : NV) (x2 : Value) (hX : Φ (.returned (.tuple #[x0, .agg (av n1 F1), x2])) w) {g1 T1 : Nat} (hp0 : Ep a p x0 := by exact ⟨by kernel_rfl⟩) (hi1 : L[i1]? = some ⟨g1, .cells (av n1 F1) T1⟩ := by exact rfl) (hp1 : Ep a q (.pointer (some ⟨g1, 0, none⟩)) := by exact ⟨by kernel_rfl⟩) (hu1 : (P.underlying t1).map TypeDesc.isRow = some true := by kernel_rfl) (hz1 : (P.info? t1).map (·.size) = some n1 := by kernel_rfl) (hp2 : Ep a r x2 := by exact ⟨by kernel_rfl⟩) (hd : a.defers = [] := by kernel_rfl) : bodyPost P fn Φ .ret a w := by
 obtain ⟨d1, e1, f1⟩ := isRow_of hu1
 exact bodyPost_ret (results_tct h _ _ g1 T1 (av n1 F1) (0, 0) _ _ _ hp0.out hp1.out hp2.out (M.get i1 hi1) e1 (by revert f1; cases d1 <;> intro f <;> first | rfl | cases f) (by rw [av_size]; exact hz1)) hd hX
end
open Go.RowKit
theorem c_mixS (g n T : Nat) (hn : 4 ≤ n) (s : St) (R : List Value) (t : Yb) (hs : s.h.size + t.size < 1000000) (w : World) (hL : Laid w)  (hg : w.heap[g]? = some (.cells (av n (stL s R)) T)) (h0 : 2 < g) : Calls Tryz.prog 37 #[.pointer (some ⟨g, 0, none⟩), .string t] w fun r w' => r = .returned (.tuple #[]) ∧ Grw w w' [g] ∧ w'.heap[g]? = some (.cells (av n (stL (mixF s t) R)) T) := by
 go_enter Tryz.func37, Tryz.ntmps37
 have M := Mem.startp hL hg h0
 refine rg_lit <| rV 4 <| ZE M 8 0 0 <| rV 1 ?_
 refine pH 10 (.string (s.h ++ t)) (run_cat 9 9 _ _ rfl s.h t (by kernel_rfl) (by kernel_rfl) (by (try simp only [ByteArray.size_append, ByteArray.size_extract]); omega)) ?_
 refine ZC M 11 (fun w M => c_Bh (s.h ++ t) w M.laid) fun u1 M => rV 2 <| pP M 0 rfl 0 (.string (Bh (s.h ++ t))) (stL ⟨(Bh (s.h ++ t)), s.c, s.k, s.e⟩ R) (by omega) (fun j _ => put_st0 _ _ _ j) fun u2 M => pl_nil ?_
 have e0 : mixF s t = ⟨(Bh (s.h ++ t)), s.c, s.k, s.e⟩ := rfl
 exact bodyPost_end (v := .tuple #[]) (results_none Tryz.results37 _ _) (by kernel_rfl) ⟨rfl, M.old, by rw [e0]; exact M.get 0 rfl⟩
theorem c_begin (g n T : Nat) (hn : 4 ≤ n) (s : St) (R : List Value) (pr pu : Yb) (hp : pr.size ≤ 5000) (hq : pu.size ≤ 5000) (w : World) (hL : Laid w)  (hg : w.heap[g]? = some (.cells (av n (stL s R)) T)) (h0 : 2 < g) : Calls Tryz.prog 31 #[.pointer (some ⟨g, 0, none⟩), .string pr, .string pu] w fun r w' => r = .returned (.tuple #[]) ∧ Grw w w' [g] ∧ w'.heap[g]? = some (.cells (av n (stL (beginF pr pu s) R)) T) := by
 go_enter Tryz.func31, Tryz.ntmps31
 have M := Mem.startp hL hg h0
 refine sR <| rV 1 <| ZC M 7 (fun w M => c_Bh nameS w M.laid) fun u1 M => rV 2 <| pP M 0 rfl 0 (.string (Bh nameS)) (stL ⟨(Bh nameS), s.c, s.k, s.e⟩ R) (by omega) (fun j _ => put_st0 _ _ _ j) fun u2 M => nT <| sR <| rV 4 <| ZE M 14 0 0 <| rV 2 <| pP M 0 rfl 1 (.string (Bh nameS)) (stL ⟨(Bh nameS), (Bh nameS), s.k, s.e⟩ R) (by omega) (fun j _ => put_st1 _ _ _ j) fun u3 M => nT <| sR <| rV 2 ?_
 refine ZY M 19 0 (.tuple #[]) (.cells (av n (stL (mixF ⟨(Bh nameS), (Bh nameS), s.k, s.e⟩ pr) R)) T) (fun w M => c_mixS g n T (by omega) ⟨(Bh nameS), (Bh nameS), s.k, s.e⟩ R pr (by show (Bh _).size + _ < _; rw [Bh_size]; omega) w M.laid (M.get 0 rfl) (M.ne0 0 rfl)) fun u4 M => ?_
 refine nT <| rg_lit <| rV 2 ?_
 refine ZY M 22 0 (.tuple #[]) (.cells (av n (stL (mixF (mixF ⟨(Bh nameS), (Bh nameS), s.k, s.e⟩ pr) pu) R)) T) (fun w M => c_mixS g n T (by omega) (mixF ⟨(Bh nameS), (Bh nameS), s.k, s.e⟩ pr) R pu (by show (Bh _).size + _ < _; rw [Bh_size]; omega) w M.laid (M.get 0 rfl) (M.ne0 0 rfl)) fun u5 M => ?_
 refine pl_nil ?_
 have e0 : beginF pr pu s = (mixF (mixF ⟨(Bh nameS), (Bh nameS), s.k, s.e⟩ pr) pu) := rfl
 exact bodyPost_end (v := .tuple #[]) (results_none Tryz.results31 _ _) (by kernel_rfl) ⟨rfl, M.old, by rw [e0]; exact M.get 0 rfl⟩
theorem c_made (g n T : Nat) (hn : 4 ≤ n) (s : St) (R : List Value) (hs : s.h.size = 32) (w : World) (hL : Laid w)  (hg : w.heap[g]? = some (.cells (av n (stL s R)) T)) (h0 : 2 < g) : Cs 39 #[.pointer (some ⟨g, 0, none⟩)] w (.bool true) := by
 go_enter Tryz.func39, Tryz.ntmps39
 have M := Mem.startp hL hg h0
 refine sq <| sR <| rV 3 <| ZE M 6 0 0 ?_
 by_cases c0 : s.h = (⟨#[]⟩ : Yb)
 ·exact absurd hs (by rw [c0]; decide)
 ·refine zJ 7 (.bool true) (.bool (!(s.h.toList == (⟨#[]⟩ : Yb).toList))) (by rw [seq_neg c0]; rfl) <| rV 1 <| nT <| wp_ret ?_
  exact bX (.bool true) ⟨rfl, ro_below1 M.old hg (M.get 0 rfl)⟩
theorem c_public (g n T : Nat) (hn : 4 ≤ n) (s : St) (R : List Value) (x : Yb) (hx : x.size = 32) (w : World) (hL : Laid w)  (hg : w.heap[g]? = some (.cells (av n (stL s R)) T)) (h0 : 2 < g) : Calls Tryz.prog 35 #[.pointer (some ⟨g, 0, none⟩), .string x] w fun r w' => r = .returned (.string (pubF s x)) ∧ Grw w w' [g] ∧ w'.heap[g]? = some (.cells (av n (stL (s) R)) T) := by
 go_enter Tryz.func35, Tryz.ntmps35
 have M := Mem.startp hL hg h0
 refine sq <| wp_seq <| sR <| rV 3 <| ZE M 8 0 3 ?_
 by_cases c0 : s.e = 0
 ·refine wT 9 c0 <| nT <| cT <| rg_lit <| rV 2 <| pD M 13 (.tuple #[.string (puV x), .int .i64 0]) (fun w M => pub_tellsL x hx w M.laid) fun u1 M => rV 6 <| pP M 0 rfl 3 (.int .i64 0) (stL ⟨s.h, s.c, s.k, 0⟩ R) (by omega) (fun j _ => put_st3 _ _ _ j) fun u2 M => nT <| sq <| wp_ret ?_
  have e0 : s = ⟨s.h, s.c, s.k, 0⟩ := st_eq rfl rfl rfl c0
  have e1 : (pubF s x) = (puV x) := by simp only [pubF, if_pos c0]
  exact bX (.string (puV x)) ⟨by rw [e1], M.old, by rw [e0]; exact M.get 0 rfl⟩
 ·refine wF 9 c0 <| nT <| cF <| wp_skip <| au_then <| sq <| wp_ret ?_
  have e1 : (pubF s x) = ⟨#[]⟩ := by simp only [pubF, if_neg c0]
  exact bX (.string zb) ⟨by rw [e1], M.old, M.get 0 rfl⟩
theorem pubF_le (s : St) (x : Yb) : (pubF s x).size ≤ 32 := by
 unfold pubF
 split
 ·rw [puV_size]; exact Nat.le_refl _
 ·exact Nat.zero_le _
theorem c_show (g n T : Nat) (hn : 4 ≤ n) (s : St) (R : List Value) (x : Yb) (hx : x.size = 32) (hs : s.h.size ≤ 32) (w : World) (hL : Laid w)  (hg : w.heap[g]? = some (.cells (av n (stL s R)) T)) (h0 : 2 < g) : Calls Tryz.prog 32 #[.pointer (some ⟨g, 0, none⟩), .string x] w fun r w' => r = .returned (.string (pubF s x)) ∧ Grw w w' [g] ∧ w'.heap[g]? = some (.cells (av n (stL (mixF s (pubF s x)) R)) T) := by
 go_enter Tryz.func32, Tryz.ntmps32
 have M := Mem.startp hL hg h0
 refine sq <| sR <| rV 2 <| ZY M 8 0 (.string (pubF s x)) (.cells (av n (stL s R)) T) (fun w M => c_public g n T (by omega) s R x (hx) w M.laid (M.get 0 rfl) (M.ne0 0 rfl)) fun u1 M => rV 1 <| nT <| sR <| rV 2 <| ZY M 11 0 (.tuple #[]) (.cells (av n (stL (mixF s (pubF s x)) R)) T) (fun w M => c_mixS g n T (by omega) s R (pubF s x) (by have := pubF_le s x; omega) w M.laid (M.get 0 rfl) (M.ne0 0 rfl)) fun u2 M => nT <| sq <| wp_ret ?_
 have e0 : mixF s (pubF s x) = (mixF s (pubF s x)) := rfl
 exact bX (.string (pubF s x)) ⟨rfl, M.old, by rw [e0]; exact M.get 0 rfl⟩
theorem c_next (g n T : Nat) (hn : 4 ≤ n) (s : St) (R : List Value) (t : Yb) (ht : t.size < 10000) (w : World) (hL : Laid w)  (hg : w.heap[g]? = some (.cells (av n (stL s R)) T)) (h0 : 2 < g) : Cs 40 #[.pointer (some ⟨g, 0, none⟩), .string t] w (.tuple #[.string (nxA s.c t), .string (nxB s.c t)]) := by
 go_enter Tryz.func40, Tryz.ntmps40
 have M := Mem.startp hL hg h0
 refine sq <| sR <| rV 3 <| ZE M 12 0 1 <| rV 1 <| pl_calln M (want_no rfl) (some 14) rfl 65 #[.string s.c, .string t, .int .i64 2] (fun g1 => .tuple #[.slice (some ⟨g1, 0, none⟩) 2 2, .int .i64 0]) (.cells (av 2 (Bla.ws (Bla.txt s.c t))) 9) (fun _ => by kernel_rfl) (fun w M => Bla.c_ch s.c t ht 2 (by decide) (by decide) w M.laid) fun g1 u1 M => rV 5 <| nT <| wp_seq <| rgh M [⟨g, .cells (av n (stL s R)) T⟩, ⟨g1, .cells (av 2 (Bla.ws (Bla.txt s.c t))) 9⟩] 7 fun u2 M => qV M 0 17 (.slice (some ⟨g1, 0, none⟩) 2 2) <| qV M 1 18 (.pointer (some ⟨g1, 0, none⟩)) <| qE M 2 19 1 0 <| qV M 3 20 (.slice (some ⟨g1, 0, none⟩) 2 2) <| qV M 4 21 (.pointer (some ⟨g1, 1, none⟩)) <| qE M 5 22 1 1 ?_
 refine qV M 6 4 (.string (nxA s.c t)) <| qZ ?_
 refine rV 1 <| nT <| au_then <| wp_ret ?_
 exact bX (.tuple #[.string (nxA s.c t), .string (nxB s.c t)]) ⟨rfl, ro_below1 M.old hg (M.get 0 rfl)⟩
theorem c_add (g n T : Nat) (hn : 4 ≤ n) (s : St) (R : List Value) (x y : Yb) (hx : x.size = 32) (hy : s.e = 0 → y.size = 32) (w : World) (hL : Laid w)  (hg : w.heap[g]? = some (.cells (av n (stL s R)) T)) (h0 : 2 < g) : Calls Tryz.prog 33 #[.pointer (some ⟨g, 0, none⟩), .string x, .string y] w fun r w' => r = .returned (.tuple #[]) ∧ Grw w w' [g] ∧ w'.heap[g]? = some (.cells (av n (stL (addF s x y) R)) T) := by
 go_enter Tryz.func33, Tryz.ntmps33
 have M := Mem.startp hL hg h0
 refine wp_seq <| sR <| rV 3 <| ZE M 11 0 3 ?_
 by_cases c0 : s.e = 0
 ·refine wD 12 c0 <| nT <| cF <| wp_skip <| au_then <| sR <| rV 2 ?_
  by_cases c1 : shN x y = 0
  ·refine ZC M 16 (fun w M => c_shZ x y hx (hy c0) c1 w M.laid) fun u1 M => rV 5 <| nT <| wp_seq <| sq <| cT <| sR <| rV 4 <| pP M 0 rfl 3 (.int .i64 30) (stL ⟨s.h, s.c, s.k, 30⟩ R) (by omega) (fun j _ => put_st3 _ _ _ j) fun u2 M => nT <| wp_ret <| au_then_ret ?_
   have e0 : addF s x y = ⟨s.h, s.c, s.k, 30⟩ := by simp only [addF, if_pos c0, if_pos c1]
   exact bodyPost_ret (v := .tuple #[]) (results_none Tryz.results33 _ _) (by kernel_rfl) ⟨rfl, M.old, by rw [e0]; exact M.get 0 rfl⟩
  ·refine ZC M 16 (fun w M => c_shN x y hx (hy c0) c1 w M.laid) fun u1 M => rV 5 <| nT <| wp_seq <| sq <| cF <| wp_skip <| au_then <| rg_lit <| rV 4 <| ZC M 30 (fun w M => c_next g n T (by omega) s R (Mon.lebytes (shN x y)) (by rw [Mon.leb_size]; decide) w M.laid (M.get 0 rfl) (M.ne0 0 rfl)) fun u2 M => rV 5 <| pP M 0 rfl 1 (.string (nxA s.c (Mon.lebytes (shN x y)))) (stL ⟨s.h, (nxA s.c (Mon.lebytes (shN x y))), s.k, s.e⟩ R) (by omega) (fun j _ => put_st1 _ _ _ j) fun u3 M => rV 2 <| pP M 0 rfl 2 (.string (nxB s.c (Mon.lebytes (shN x y)))) (stL ⟨s.h, (nxA s.c (Mon.lebytes (shN x y))), (nxB s.c (Mon.lebytes (shN x y))), s.e⟩ R) (by omega) (fun j _ => put_st2 _ _ _ j) fun u4 M => pl_nil ?_
   have e0 : addF s x y = ⟨s.h, (nxA s.c (Mon.lebytes (shN x y))), (nxB s.c (Mon.lebytes (shN x y))), s.e⟩ := by simp only [addF, if_pos c0, if_neg c1]
   exact bodyPost_end (v := .tuple #[]) (results_none Tryz.results33 _ _) (by kernel_rfl) ⟨rfl, M.old, by rw [e0]; exact M.get 0 rfl⟩
 ·refine wU 12 c0 <| nT <| cT <| wp_ret <| au_then_ret ?_
  have e0 : addF s x y = s := by simp only [addF, if_neg c0]
  exact bodyPost_ret (v := .tuple #[]) (results_none Tryz.results33 _ _) (by kernel_rfl) ⟨rfl, M.old, by rw [e0]; exact M.get 0 rfl⟩
theorem c_seal (g n T : Nat) (hn : 4 ≤ n) (s : St) (R : List Value) (t : Yb) (hs : s.h.size = 32) (hk : s.e = 0 → s.k.size = 32) (ht : t.size ≤ 5000) (w : World) (hL : Laid w)  (hg : w.heap[g]? = some (.cells (av n (stL s R)) T)) (h0 : 2 < g) : Calls Tryz.prog 34 #[.pointer (some ⟨g, 0, none⟩), .string t] w fun r w' => r = .returned (.string (sealV s t)) ∧ Grw w w' [g] ∧ w'.heap[g]? = some (.cells (av n (stL (sealF s t) R)) T) := by
 go_enter Tryz.func34, Tryz.ntmps34
 have M := Mem.startp hL hg h0
 refine sq <| wp_seq <| sR <| rV 3 <| ZE M 8 0 3 ?_
 by_cases c0 : s.e = 0
 ·refine wT 9 c0 <| nT <| cT <| wp_seq <| rgh M [⟨g, .cells (av n (stL s R)) T⟩] 18 fun u1 M => qV M 0 11 (.pointer (some ⟨g, 0, none⟩)) <| qV M 1 12 (.pointer (some ⟨g, 0, none⟩)) <| qV M 2 13 (.pointer (some ⟨g, 0, none⟩)) <| qV M 3 14 (.pointer (some ⟨g, 2, none⟩)) <| qE M 4 15 0 2 <| qV M 6 17 (.pointer (some ⟨g, 0, none⟩)) <| qV M 7 18 (.pointer (some ⟨g, 0, none⟩)) <| qV M 8 19 (.pointer (some ⟨g, 0, none⟩)) <| qE M 9 20 0 0 <| qV M 10 21 (.string t) <| qO 5 ?_
  refine ZC M 16 (fun w M => c_Nonce 0 w M.laid) fun u2 M => nT ?_
  refine ⟨M, ?_⟩
  refine qO 11 ?_
  refine pC M 22 46 #[.string s.k, .string n0, .string s.h, .string t] (.tuple #[.string (sealS s.k n0 s.h t), .int .i64 0]) (fun w M => c_SealA _ _ _ t (sf_seal (hk c0) hs (by omega)) w M.laid) fun u3 M => nT ?_
  refine ⟨M, ?_⟩
  refine qV M 12 10 (.tuple #[.string (sealS s.k n0 s.h t), .int .i64 0]) <| qV M 13 23 (.string (sealS s.k n0 s.h t)) <| qV M 14 24 (.int .i64 0) <| qV M 15 4 (.string (sealS s.k n0 s.h t)) <| qV M 16 25 (.pointer (some ⟨g, 0, none⟩)) <| qV M 17 26 (.pointer (some ⟨g, 3, none⟩)) <| qZ ?_
  refine pP M 0 rfl 3 (.int .i64 0) (stL ⟨s.h, s.c, s.k, 0⟩ R) (by omega) (fun j _ => put_st3 _ _ _ j) fun u4 M => nT <| au_then <| rg_lit <| rV 2 <| ZY M 29 0 (.tuple #[]) (.cells (av n (stL (mixF ⟨s.h, s.c, s.k, 0⟩ (sealS s.k n0 s.h t)) R)) T) (fun w M => c_mixS g n T (by omega) ⟨s.h, s.c, s.k, 0⟩ R (sealS s.k n0 s.h t) (by show s.h.size + _ < _; rw [sealS_size]; omega) w M.laid (M.get 0 rfl) (M.ne0 0 rfl)) fun u5 M => nT <| sq <| wp_ret ?_
  have e0 : sealF s t = (mixF ⟨s.h, s.c, s.k, 0⟩ (sealS s.k n0 s.h t)) := by simp only [sealF, if_pos c0]
  have e1 : (sealV s t) = (sealS s.k n0 s.h t) := by simp only [sealV, if_pos c0]
  exact bX (.string (sealS s.k n0 s.h t)) ⟨by rw [e1], M.old, by rw [e0]; exact M.get 0 rfl⟩
 ·refine wF 9 c0 <| nT <| cF <| wp_skip <| au_then <| sq <| wp_ret ?_
  have e0 : sealF s t = s := by simp only [sealF, if_neg c0]
  have e1 : (sealV s t) = ⟨#[]⟩ := by simp only [sealV, if_neg c0]
  exact bX (.string zb) ⟨by rw [e1], M.old, by rw [e0]; exact M.get 0 rfl⟩
theorem c_open (g n T : Nat) (hn : 4 ≤ n) (s : St) (R : List Value) (t : Yb) (hs : s.h.size = 32) (hk : s.e = 0 → s.k.size = 32) (ht : t.size ≤ 5000) (h6 : 16 ≤ t.size) (w : World) (hL : Laid w)  (hg : w.heap[g]? = some (.cells (av n (stL s R)) T)) (h0 : 2 < g) : Calls Tryz.prog 38 #[.pointer (some ⟨g, 0, none⟩), .string t] w fun r w' => r = .returned (.string (openV s t)) ∧ Grw w w' [g] ∧ w'.heap[g]? = some (.cells (av n (stL (openF s t) R)) T) := by
 go_enter Tryz.func38, Tryz.ntmps38
 have M := Mem.startp hL hg h0
 refine sq <| wp_seq <| sR <| rV 3 <| ZE M 8 0 3 ?_
 by_cases c0 : s.e = 0
 ·refine wT 9 c0 <| nT <| cT <| wp_seq <| rgh M [⟨g, .cells (av n (stL s R)) T⟩] 18 fun u1 M => qV M 0 11 (.pointer (some ⟨g, 0, none⟩)) <| qV M 1 12 (.pointer (some ⟨g, 0, none⟩)) <| qV M 2 13 (.pointer (some ⟨g, 0, none⟩)) <| qV M 3 14 (.pointer (some ⟨g, 2, none⟩)) <| qE M 4 15 0 2 <| qV M 6 17 (.pointer (some ⟨g, 0, none⟩)) <| qV M 7 18 (.pointer (some ⟨g, 0, none⟩)) <| qV M 8 19 (.pointer (some ⟨g, 0, none⟩)) <| qE M 9 20 0 0 <| qV M 10 21 (.string t) <| qO 5 ?_
  refine ZC M 16 (fun w M => c_Nonce 0 w M.laid) fun u2 M => nT ?_
  refine ⟨M, ?_⟩
  refine qO 11 ?_
  by_cases c1 : tgX s.k n0 s.h t = t.extract (t.size - 16) t.size
  ·refine pC M 22 49 #[.string s.k, .string n0, .string s.h, .string t] (.tuple #[.string (opS s.k n0 t), .int .i64 0]) (fun w M => c_OpenA _ _ _ t (sf_open (hk c0) hs (by omega) h6) c1 w M.laid) fun u3 M => nT ?_
   refine ⟨M, ?_⟩
   refine qV M 12 10 (.tuple #[.string (opS s.k n0 t), .int .i64 0]) <| qV M 13 23 (.string (opS s.k n0 t)) <| qV M 14 24 (.int .i64 0) <| qV M 15 4 (.string (opS s.k n0 t)) <| qV M 16 25 (.pointer (some ⟨g, 0, none⟩)) <| qV M 17 26 (.pointer (some ⟨g, 3, none⟩)) <| qZ ?_
   refine pP M 0 rfl 3 (.int .i64 0) (stL ⟨s.h, s.c, s.k, 0⟩ R) (by omega) (fun j _ => put_st3 _ _ _ j) fun u4 M => nT <| au_then <| rg_lit <| rV 2 <| ZY M 29 0 (.tuple #[]) (.cells (av n (stL (mixF ⟨s.h, s.c, s.k, 0⟩ t) R)) T) (fun w M => c_mixS g n T (by omega) ⟨s.h, s.c, s.k, 0⟩ R t (by show s.h.size + t.size < _; omega) w M.laid (M.get 0 rfl) (M.ne0 0 rfl)) fun u5 M => nT <| sq <| wp_ret ?_
   have e0 : openF s t = (mixF ⟨s.h, s.c, s.k, 0⟩ t) := by simp only [openF, if_pos c0, if_pos c1]
   have e1 : (openV s t) = (opS s.k n0 t) := by simp only [openV, if_pos c0, if_pos c1]
   exact bX (.string (opS s.k n0 t)) ⟨by rw [e1], M.old, by rw [e0]; exact M.get 0 rfl⟩
  ·refine pC M 22 49 #[.string s.k, .string n0, .string s.h, .string t] (.tuple #[.string zb, .int .i64 100]) (fun w M => c_OpenB _ _ _ t (sf_open (hk c0) hs (by omega) h6) c1 w M.laid) fun u3 M => nT ?_
   refine ⟨M, ?_⟩
   refine qV M 12 10 (.tuple #[.string zb, .int .i64 100]) <| qV M 13 23 (.string zb) <| qV M 14 24 (.int .i64 100) <| qV M 15 4 (.string zb) <| qV M 16 25 (.pointer (some ⟨g, 0, none⟩)) <| qV M 17 26 (.pointer (some ⟨g, 3, none⟩)) <| qZ ?_
   refine pP M 0 rfl 3 (.int .i64 100) (stL ⟨s.h, s.c, s.k, 100⟩ R) (by omega) (fun j _ => put_st3 _ _ _ j) fun u4 M => nT <| au_then <| rg_lit <| rV 2 <| ZY M 29 0 (.tuple #[]) (.cells (av n (stL (mixF ⟨s.h, s.c, s.k, 100⟩ t) R)) T) (fun w M => c_mixS g n T (by omega) ⟨s.h, s.c, s.k, 100⟩ R t (by show s.h.size + t.size < _; omega) w M.laid (M.get 0 rfl) (M.ne0 0 rfl)) fun u5 M => nT <| sq <| wp_ret ?_
   have e0 : openF s t = (mixF ⟨s.h, s.c, s.k, 100⟩ t) := by simp only [openF, if_pos c0, if_neg c1]
   have e1 : (openV s t) = ⟨#[]⟩ := by simp only [openV, if_pos c0, if_neg c1]
   exact bX (.string zb) ⟨by rw [e1], M.old, by rw [e0]; exact M.get 0 rfl⟩
 ·refine wF 9 c0 <| nT <| cF <| wp_skip <| au_then <| sq <| wp_ret ?_
  have e0 : openF s t = s := by simp only [openF, if_neg c0]
  have e1 : (openV s t) = ⟨#[]⟩ := by simp only [openV, if_neg c0]
  exact bX (.string zb) ⟨by rw [e1], M.old, by rw [e0]; exact M.get 0 rfl⟩
theorem c_end (g n T : Nat) (hn : 4 ≤ n) (s : St) (R : List Value)  (w : World) (hL : Laid w)  (hg : w.heap[g]? = some (.cells (av n (stL s R)) T)) (h0 : 2 < g) : Calls Tryz.prog 36 #[.pointer (some ⟨g, 0, none⟩)] w fun r w' => r = .returned (.int .i64 s.e) ∧ Grw w w' [g] ∧ w'.heap[g]? = some (.cells (av n (stL (endF s) R)) T) := by
 go_enter Tryz.func36, Tryz.ntmps36
 have M := Mem.startp hL hg h0
 refine sq <| sR <| rV 3 <| pP M 0 rfl 2 (.string zb) (stL ⟨s.h, s.c, ⟨#[]⟩, s.e⟩ R) (by omega) (fun j _ => put_st2 _ _ _ j) fun u1 M => nT <| sR <| rV 3 <| ZE M 9 0 3 <| rV 1 <| nT <| wp_ret ?_
 have e0 : endF s = ⟨s.h, s.c, ⟨#[]⟩, s.e⟩ := rfl
 exact bX (.int .i64 s.e) ⟨rfl, M.old, by rw [e0]; exact M.get 0 rfl⟩
open Go.RowKit
def z0 : St := ⟨⟨#[]⟩, ⟨#[]⟩, ⟨#[]⟩, 0⟩
def adN (s : St) (V : Int) : St := ⟨s.h, nxA s.c (Mon.lebytes V), nxB s.c (Mon.lebytes V), 0⟩
abbrev tagOk (s : St) (t : Yb) : Prop := tgX s.k n0 s.h t = t.extract (t.size - 16) t.size
theorem mixF_e {s : St} {t : Yb} {n : Int} (h : s.e = n) : (mixF s t).e = n := by
 unfold mixF
 exact h
theorem mixF_h (s : St) (t : Yb) : (mixF s t).h.size = 32 := Bh_size _
theorem beginF_h (pr pu : Yb) (s : St) : (beginF pr pu s).h.size = 32 := mixF_h _ _
theorem addF_h (s : St) (x y : Yb) : (addF s x y).h = s.h := by
 unfold addF
 split
 ·split <;> rfl
 ·rfl
theorem addF_k {s : St} {x y : Yb} (h : (addF s x y).e = 0) : (addF s x y).k.size = 32 := by
 unfold addF at h ⊢
 split
 ·rename_i h0
  rw [if_pos h0] at h
  split
  ·rename_i h1
   rw [if_pos h1] at h
   cases h
  ·exact nxB_size _ _
 ·rename_i h0
  rw [if_neg h0] at h
  exact absurd h h0
theorem addF_ok {s : St} {x y : Yb} (h : s.e = 0) (hn : ¬ shN x y = 0) : addF s x y = adN s (shN x y) := by
 unfold addF adN
 rw [if_pos h, if_neg hn, h]
theorem addF_z {s : St} {x y : Yb} (h : s.e = 0) (hn : shN x y = 0) : (addF s x y).e = 30 := by
 unfold addF
 rw [if_pos h, if_pos hn]
theorem addF_no {s : St} {x y : Yb} (h : ¬ s.e = 0) : addF s x y = s := if_neg h
theorem sealF_ok {s : St} {t : Yb} (h : s.e = 0) : sealF s t = mixF s (sealS s.k n0 s.h t) := by
 unfold sealF
 rw [if_pos h, st_eq (a := ⟨s.h, s.c, s.k, 0⟩) (b := s) rfl rfl rfl h.symm]
theorem sealF_h {s : St} {t : Yb} (h : s.h.size = 32) : (sealF s t).h.size = 32 := by
 unfold sealF
 split
 ·exact mixF_h _ _
 ·exact h
theorem sealF_e (s : St) (t : Yb) : (sealF s t).e = s.e := by
 unfold sealF
 split
 ·rename_i h
  exact h.symm
 ·rfl
theorem openF_ok {s : St} {t : Yb} (h : s.e = 0) (ht : tagOk s t) : openF s t = mixF s t := by
 unfold openF
 rw [if_pos h, if_pos ht, st_eq (a := ⟨s.h, s.c, s.k, 0⟩) (b := s) rfl rfl rfl h.symm]
theorem openF_bad {s : St} {t : Yb} (h : s.e = 0) (ht : ¬ tagOk s t) : (openF s t).e = 100 := by
 unfold openF
 rw [if_pos h, if_neg ht]
 rfl
theorem openF_no {s : St} {t : Yb} (h : ¬ s.e = 0) : openF s t = s := if_neg h
theorem openF_h {s : St} {t : Yb} (h : s.h.size = 32) : (openF s t).h.size = 32 := by
 unfold openF
 split
 ·split <;> exact mixF_h _ _
 ·exact h
theorem openV_ok {s : St} {t : Yb} (h : s.e = 0) (ht : tagOk s t) : openV s t = opS s.k n0 t := by
 unfold openV
 rw [if_pos h, if_pos ht]
theorem opS_size (k n t : Yb) : (opS k n t).size = t.size - 16 := by
 unfold opS
 rw [tn_size, cx_size]
theorem openV_size {s : St} {t : Yb} (h : (openF s t).e = 0) : (openV s t).size = t.size - 16 := by
 by_cases h0 : s.e = 0
 ·by_cases h1 : tagOk s t
  ·rw [openV_ok h0 h1, opS_size]
  ·rw [openF_bad h0 h1] at h
   cases h
 ·rw [openF_no h0] at h
  exact absurd h h0
theorem sealV_le (s : St) (t : Yb) : (sealV s t).size ≤ t.size + 16 := by
 unfold sealV
 split
 ·rw [sealS_size]; exact Nat.le_refl _
 ·exact Nat.zero_le _
theorem pubF_ok {s : St} {x : Yb} (h : s.e = 0) : pubF s x = puV x := if_pos h
def bS0 (b pr : Yb) : St := beginF pr b z0
def bS1 (b e pr : Yb) : St := mixF (bS0 b pr) (pubF (bS0 b pr) e)
def bS2 (b e pr : Yb) : St := addF (bS1 b e pr) e b
def bS3 (a b e pr : Yb) : St := sealF (bS2 b e pr) (pubF (bS2 b e pr) a)
def bS4 (a b e pr : Yb) : St := addF (bS3 a b e pr) a b
def bS5 (a b e pr pl : Yb) : St := sealF (bS4 a b e pr) pl
def bMs (a b e pr pl : Yb) : ByteArray := pubF (bS0 b pr) e ++ sealV (bS2 b e pr) (pubF (bS2 b e pr) a) ++ sealV (bS4 a b e pr) pl
def bgE (a b e pr pl : Yb) : Int := if (a.size : Int) = 32 then (if (b.size : Int) = 32 then (if (e.size : Int) = 32 then (if 4096 < (pr.size : Int) then 4 else if 4096 < (pl.size : Int) then 4 else (bS5 a b e pr pl).e) else 2) else 2) else 2
def tS1 (b e pr : Yb) : St := mixF (bS0 b pr) (puV e)
def tS2 (b e pr : Yb) : St := adN (tS1 b e pr) (shN e b)
def tX1 (a b e pr : Yb) : ByteArray := sealS (tS2 b e pr).k n0 (tS2 b e pr).h (puV a)
def tS3 (a b e pr : Yb) : St := mixF (tS2 b e pr) (tX1 a b e pr)
def tS4 (a b e pr : Yb) : St := adN (tS3 a b e pr) (shN a b)
def tX2 (a b e pr pl : Yb) : ByteArray := sealS (tS4 a b e pr).k n0 (tS4 a b e pr).h pl
def tS5 (a b e pr pl : Yb) : St := mixF (tS4 a b e pr) (tX2 a b e pr pl)
def tMs (a b e pr pl : Yb) : ByteArray := puV e ++ tX1 a b e pr ++ tX2 a b e pr pl
theorem bS2_t {b e pr : Yb} (h : ¬ shN e b = 0) : bS2 b e pr = tS2 b e pr := addF_ok rfl h
theorem bS3_t {a b e pr : Yb} (h : ¬ shN e b = 0) : bS3 a b e pr = tS3 a b e pr := by
 unfold bS3
 rw [bS2_t h]
 exact sealF_ok rfl
theorem bS4_t {a b e pr : Yb} (h : ¬ shN e b = 0) (h2 : ¬ shN a b = 0) : bS4 a b e pr = tS4 a b e pr := by
 unfold bS4
 rw [bS3_t h]
 exact addF_ok rfl h2
theorem bS5_t {a b e pr pl : Yb} (h : ¬ shN e b = 0) (h2 : ¬ shN a b = 0) : bS5 a b e pr pl = tS5 a b e pr pl := by
 unfold bS5
 rw [bS4_t h h2]
 exact sealF_ok rfl
theorem bMs_t {a b e pr pl : Yb} (h : ¬ shN e b = 0) (h2 : ¬ shN a b = 0) : bMs a b e pr pl = tMs a b e pr pl := by
 unfold bMs
 rw [bS4_t h h2, bS2_t h]
 rfl
theorem bS5_e (a b e pr pl : Yb) : (bS5 a b e pr pl).e = if shN e b = 0 then 30 else if shN a b = 0 then 30 else 0 := by
 unfold bS5
 rw [sealF_e]
 by_cases h : shN e b = 0
 ·have h1 : (bS2 b e pr).e = 30 := addF_z rfl h
  have h2 : (bS3 a b e pr).e = 30 := by unfold bS3; rw [sealF_e, h1]
  have h3 : bS4 a b e pr = bS3 a b e pr := addF_no (by rw [h2]; decide)
  rw [h3, h2, if_pos h]
 ·rw [if_neg h]
  by_cases h2 : shN a b = 0
  ·rw [if_pos h2]
   unfold bS4
   rw [bS3_t h]
   exact addF_z rfl h2
  ·rw [if_neg h2, bS4_t h h2]
   rfl
def rE (m : Yb) : ByteArray := m.extract 0 32
def rC1 (m : Yb) : ByteArray := m.extract 32 80
def rC2 (m : Yb) : ByteArray := m.extract 80 m.size
def rS0 (b pr : Yb) : St := beginF pr (pubF z0 b) z0
def rS1 (b pr m : Yb) : St := mixF (rS0 b pr) (rE m)
def rS2 (b pr m : Yb) : St := addF (rS1 b pr m) b (rE m)
def rF (b pr m : Yb) : ByteArray := openV (rS2 b pr m) (rC1 m)
def rS3 (b pr m : Yb) : St := openF (rS2 b pr m) (rC1 m)
def rS4 (b pr m : Yb) : St := addF (rS3 b pr m) b (rF b pr m)
def rP (b pr m : Yb) : ByteArray := openV (rS4 b pr m) (rC2 m)
def rS5 (b pr m : Yb) : St := openF (rS4 b pr m) (rC2 m)
def rdE (b pr m : Yb) : Int := if (b.size : Int) = 32 then (if 4096 < (pr.size : Int) then 4 else if 4192 < (m.size : Int) then 4 else if (m.size : Int) < 96 then 7 else (rS5 b pr m).e) else 2
def uS2 (b pr m : Yb) : St := adN (rS1 b pr m) (shN b (rE m))
def uF (b pr m : Yb) : ByteArray := opS (uS2 b pr m).k n0 (rC1 m)
def uS3 (b pr m : Yb) : St := mixF (uS2 b pr m) (rC1 m)
def uS4 (b pr m : Yb) : St := adN (uS3 b pr m) (shN b (uF b pr m))
def uP (b pr m : Yb) : ByteArray := opS (uS4 b pr m).k n0 (rC2 m)
def uS5 (b pr m : Yb) : St := mixF (uS4 b pr m) (rC2 m)
theorem rS2_u {b pr m : Yb} (h : ¬ shN b (rE m) = 0) : rS2 b pr m = uS2 b pr m := addF_ok rfl h
theorem rS3_u {b pr m : Yb} (h : ¬ shN b (rE m) = 0) (h1 : tagOk (uS2 b pr m) (rC1 m)) : rS3 b pr m = uS3 b pr m := by
 unfold rS3
 rw [rS2_u h]
 exact openF_ok rfl h1
theorem rF_u {b pr m : Yb} (h : ¬ shN b (rE m) = 0) (h1 : tagOk (uS2 b pr m) (rC1 m)) : rF b pr m = uF b pr m := by
 unfold rF
 rw [rS2_u h]
 exact openV_ok rfl h1
theorem rS4_u {b pr m : Yb} (h : ¬ shN b (rE m) = 0) (h1 : tagOk (uS2 b pr m) (rC1 m)) (h2 : ¬ shN b (uF b pr m) = 0) : rS4 b pr m = uS4 b pr m := by
 unfold rS4
 rw [rS3_u h h1, rF_u h h1]
 exact addF_ok rfl h2
theorem rS5_u {b pr m : Yb} (h : ¬ shN b (rE m) = 0) (h1 : tagOk (uS2 b pr m) (rC1 m)) (h2 : ¬ shN b (uF b pr m) = 0) (h3 : tagOk (uS4 b pr m) (rC2 m)) : rS5 b pr m = uS5 b pr m := by
 unfold rS5
 rw [rS4_u h h1 h2]
 exact openF_ok rfl h3
theorem rP_u {b pr m : Yb} (h : ¬ shN b (rE m) = 0) (h1 : tagOk (uS2 b pr m) (rC1 m)) (h2 : ¬ shN b (uF b pr m) = 0) (h3 : tagOk (uS4 b pr m) (rC2 m)) : rP b pr m = uP b pr m := by
 unfold rP
 rw [rS4_u h h1 h2]
 exact openV_ok rfl h3
theorem rS5_e (b pr m : Yb) : (rS5 b pr m).e = if shN b (rE m) = 0 then 30 else if tagOk (uS2 b pr m) (rC1 m) then (if shN b (uF b pr m) = 0 then 30 else if tagOk (uS4 b pr m) (rC2 m) then 0 else 100) else 100 := by
 have no : ∀ {n : Int}, n ≠ 0 → (rS3 b pr m).e = n → (rS5 b pr m).e = n := fun hn h => by
  have h4 : rS4 b pr m = rS3 b pr m := addF_no (by rw [h]; exact hn)
  unfold rS5
  rw [h4, openF_no (by rw [h]; exact hn), h]
 by_cases h : shN b (rE m) = 0
 ·rw [if_pos h]
  have h2 : (rS2 b pr m).e = 30 := addF_z rfl h
  exact no (by decide) (by unfold rS3; rw [openF_no (by rw [h2]; decide), h2])
 ·rw [if_neg h]
  by_cases h1 : tagOk (uS2 b pr m) (rC1 m)
  ·rw [if_pos h1]
   by_cases h2 : shN b (uF b pr m) = 0
   ·rw [if_pos h2]
    have h4 : (rS4 b pr m).e = 30 := by
     unfold rS4
     rw [rS3_u h h1, rF_u h h1]
     exact addF_z rfl h2
    unfold rS5
    rw [openF_no (by rw [h4]; decide), h4]
   ·rw [if_neg h2]
    by_cases h3 : tagOk (uS4 b pr m) (rC2 m)
    ·rw [if_pos h3, rS5_u h h1 h2 h3]
     rfl
    ·rw [if_neg h3]
     unfold rS5
     rw [rS4_u h h1 h2]
     exact openF_bad rfl h3
  ·rw [if_neg h1]
   refine no (by decide) ?_
   unfold rS3
   rw [rS2_u h]
   exact openF_bad rfl h1
def aS1 (s : St) (e : Yb) : St := mixF s (pubF s e)
def aS2 (s : St) (x e : Yb) : St := addF (aS1 s e) e x
def aS3 (s : St) (f x e : Yb) : St := addF (aS2 s x e) e f
def aS4 (s : St) (f x e pl : Yb) : St := sealF (aS3 s f x e) pl
def aRp (s : St) (f x e pl : Yb) : ByteArray := pubF s e ++ sealV (aS3 s f x e) pl
def anE (s : St) (f x e pl : Yb) : Int := if (e.size : Int) = 32 then (if 4096 < (pl.size : Int) then 4 else (aS4 s f x e pl).e) else 2
def vS2 (s : St) (x e : Yb) : St := adN (mixF s (puV e)) (shN e x)
def vS3 (s : St) (f x e : Yb) : St := adN (vS2 s x e) (shN e f)
def vX (s : St) (f x e pl : Yb) : ByteArray := sealS (vS3 s f x e).k n0 (vS3 s f x e).h pl
def vS4 (s : St) (f x e pl : Yb) : St := mixF (vS3 s f x e) (vX s f x e pl)
def vRp (s : St) (f x e pl : Yb) : ByteArray := puV e ++ vX s f x e pl
theorem aS2_v {s : St} {x e : Yb} (h0 : s.e = 0) (h : ¬ shN e x = 0) : aS2 s x e = vS2 s x e := by
 unfold aS2 aS1
 rw [pubF_ok h0]
 exact addF_ok (mixF_e h0) h
theorem aS3_v {s : St} {f x e : Yb} (h0 : s.e = 0) (h : ¬ shN e x = 0) (h1 : ¬ shN e f = 0) : aS3 s f x e = vS3 s f x e := by
 unfold aS3
 rw [aS2_v h0 h]
 exact addF_ok rfl h1
theorem aS4_v {s : St} {f x e pl : Yb} (h0 : s.e = 0) (h : ¬ shN e x = 0) (h1 : ¬ shN e f = 0) : aS4 s f x e pl = vS4 s f x e pl := by
 unfold aS4
 rw [aS3_v h0 h h1]
 exact sealF_ok rfl
theorem aRp_v {s : St} {f x e pl : Yb} (h0 : s.e = 0) (h : ¬ shN e x = 0) (h1 : ¬ shN e f = 0) : aRp s f x e pl = vRp s f x e pl := by
 unfold aRp
 rw [aS3_v h0 h h1, pubF_ok h0]
 rfl
theorem aS4_e {s : St} (f x e pl : Yb) (h0 : s.e = 0) : (aS4 s f x e pl).e = if shN e x = 0 then 30 else if shN e f = 0 then 30 else 0 := by
 unfold aS4
 rw [sealF_e]
 by_cases h : shN e x = 0
 ·have h1 : (aS2 s x e).e = 30 := addF_z (mixF_e h0) h
  have h3 : aS3 s f x e = aS2 s x e := addF_no (by rw [h1]; decide)
  rw [h3, h1, if_pos h]
 ·rw [if_neg h]
  by_cases h2 : shN e f = 0
  ·rw [if_pos h2]
   unfold aS3
   rw [aS2_v h0 h]
   exact addF_z rfl h2
  ·rw [if_neg h2, aS3_v h0 h h2]
   rfl
def fC (r : Yb) : ByteArray := r.extract 32 r.size
def fS1 (s : St) (r : Yb) : St := mixF s (rE r)
def fS2 (s : St) (e r : Yb) : St := addF (fS1 s r) e (rE r)
def fS3 (s : St) (a e r : Yb) : St := addF (fS2 s e r) a (rE r)
def fP (s : St) (a e r : Yb) : ByteArray := openV (fS3 s a e r) (fC r)
def fS4 (s : St) (a e r : Yb) : St := openF (fS3 s a e r) (fC r)
def fiE (s : St) (a e r : Yb) : Int := if 4144 < (r.size : Int) then 4 else if (r.size : Int) < 48 then 7 else (fS4 s a e r).e
def gS2 (s : St) (e r : Yb) : St := adN (fS1 s r) (shN e (rE r))
def gS3 (s : St) (a e r : Yb) : St := adN (gS2 s e r) (shN a (rE r))
def gP (s : St) (a e r : Yb) : ByteArray := opS (gS3 s a e r).k n0 (fC r)
def gS4 (s : St) (a e r : Yb) : St := mixF (gS3 s a e r) (fC r)
theorem fS2_g {s : St} {e r : Yb} (h0 : s.e = 0) (h : ¬ shN e (rE r) = 0) : fS2 s e r = gS2 s e r := addF_ok (mixF_e h0) h
theorem fS3_g {s : St} {a e r : Yb} (h0 : s.e = 0) (h : ¬ shN e (rE r) = 0) (h1 : ¬ shN a (rE r) = 0) : fS3 s a e r = gS3 s a e r := by
 unfold fS3
 rw [fS2_g h0 h]
 exact addF_ok rfl h1
theorem fS4_g {s : St} {a e r : Yb} (h0 : s.e = 0) (h : ¬ shN e (rE r) = 0) (h1 : ¬ shN a (rE r) = 0) (h2 : tagOk (gS3 s a e r) (fC r)) : fS4 s a e r = gS4 s a e r := by
 unfold fS4
 rw [fS3_g h0 h h1]
 exact openF_ok rfl h2
theorem fP_g {s : St} {a e r : Yb} (h0 : s.e = 0) (h : ¬ shN e (rE r) = 0) (h1 : ¬ shN a (rE r) = 0) (h2 : tagOk (gS3 s a e r) (fC r)) : fP s a e r = gP s a e r := by
 unfold fP
 rw [fS3_g h0 h h1]
 exact openV_ok rfl h2
theorem fS4_e {s : St} (a e r : Yb) (h0 : s.e = 0) : (fS4 s a e r).e = if shN e (rE r) = 0 then 30 else if shN a (rE r) = 0 then 30 else if tagOk (gS3 s a e r) (fC r) then 0 else 100 := by
 have no : ∀ {n : Int}, n ≠ 0 → (fS3 s a e r).e = n → (fS4 s a e r).e = n := fun hn h => by
  unfold fS4
  rw [openF_no (by rw [h]; exact hn), h]
 by_cases h : shN e (rE r) = 0
 ·have h1 : (fS2 s e r).e = 30 := addF_z (mixF_e h0) h
  rw [if_pos h]
  exact no (by decide) (by unfold fS3; rw [addF_no (by rw [h1]; decide), h1])
 ·rw [if_neg h]
  by_cases h1 : shN a (rE r) = 0
  ·rw [if_pos h1]
   refine no (by decide) ?_
   unfold fS3
   rw [fS2_g h0 h]
   exact addF_z rfl h1
  ·rw [if_neg h1]
   by_cases h2 : tagOk (gS3 s a e r) (fC r)
   ·rw [if_pos h2, fS4_g h0 h h1 h2]
    rfl
   ·rw [if_neg h2]
    unfold fS4
    rw [fS3_g h0 h h1]
    exact openF_bad rfl h2
open Go.RowKit
theorem Mem.geAt {w : World} {L : List Blk} {W : World} (M : Mem ⟨w, []⟩ L W) (i : Nat) {b : Blk} (hi : L[i]? = some b) : w.heap.size ≤ b.g := (M.ge b (List.mem_of_getElem? hi)).resolve_right (by simp)
theorem bS2_h (b e pr : Yb) : (bS2 b e pr).h.size = 32 := by
 unfold bS2
 rw [addF_h]
 exact mixF_h _ _
theorem bS3_h (a b e pr : Yb) : (bS3 a b e pr).h.size = 32 := sealF_h (bS2_h b e pr)
theorem bS4_h (a b e pr : Yb) : (bS4 a b e pr).h.size = 32 := by
 unfold bS4
 rw [addF_h]
 exact bS3_h _ _ _ _
theorem rS2_h (b pr m : Yb) : (rS2 b pr m).h.size = 32 := by
 unfold rS2
 rw [addF_h]
 exact mixF_h _ _
theorem rS3_h (b pr m : Yb) : (rS3 b pr m).h.size = 32 := openF_h (rS2_h b pr m)
theorem rS4_h (b pr m : Yb) : (rS4 b pr m).h.size = 32 := by
 unfold rS4
 rw [addF_h]
 exact rS3_h _ _ _
theorem rC1_size {m : Yb} (h : 96 ≤ m.size) : (rC1 m).size = 48 := by
 unfold rC1
 rw [ByteArray.size_extract]
 omega
theorem rC2_size {m : Yb} (h : 96 ≤ m.size) : (rC2 m).size = m.size - 80 := by
 unfold rC2
 rw [ByteArray.size_extract]
 omega
theorem rE_size {m : Yb} (h : 32 ≤ m.size) : (rE m).size = 32 := by
 unfold rE
 rw [ByteArray.size_extract]
 omega
theorem rF_size {b pr m : Yb} (hm : 96 ≤ m.size) (h : (rS3 b pr m).e = 0) : (rF b pr m).size = 32 := by
 unfold rF
 rw [openV_size h, rC1_size hm]
theorem c_Begin (sa ob ep pr pl : Yb) (w : World) (hL : Laid w) : Calls Tryz.prog 16 #[.string sa, .string ob, .string ep, .string pr, .string pl] w fun r w' => Below w.heap.size w w' ∧ ((bgE sa ob ep pr pl ≠ 0 ∧ r = .returned (.tuple #[.pointer none, .string zb, .int .i64 (bgE sa ob ep pr pl)])) ∨ (bgE sa ob ep pr pl = 0 ∧ ∃ g, r = .returned (.tuple #[.pointer (some ⟨g, 0, none⟩), .string (bMs sa ob ep pr pl), .int .i64 0]) ∧ w.heap.size ≤ g ∧ w'.heap[g]? = some (.cells (av 7 (stL (endF (bS5 sa ob ep pr pl)) [.string sa, .string ep, .string ob])) 89))) := by
 go_enter Tryz.func16, Tryz.ntmps16
 have M := Mem.start hL
 refine sq <| wp_seq <| wp_block <| wp_seq <| sR <| rV 2 ?_
 by_cases c0 : (sa.size : Int) = 32
 ·refine wD 19 c0 <| rV 1 <| nT <| cF <| sR <| rV 2 ?_
  by_cases c1 : (ob.size : Int) = 32
  ·refine wD 22 c1 <| rV 1 <| nT <| cF <| rg_lit <| rV 2 ?_
   by_cases c2 : (ep.size : Int) = 32
   ·refine wD 25 c2 <| rV 1 <| nT <| cF <| wp_seq <| sR <| rV 2 ?_
    by_cases c3 : 4096 < (pr.size : Int)
    ·refine wT 29 c3 <| rV 1 <| nT <| cT <| wp_skip <| au_then <| cT <| sq <| wp_ret <| au_block_ret <| au_then_ret ?_
     have e0 : bgE sa ob ep pr pl = 4 := by simp only [bgE, if_pos c0, if_pos c1, if_pos c2, if_pos c3]
     exact bX (.tuple #[.pointer none, .string zb, .int .i64 4]) ⟨below_grown M.old, .inl ⟨by rw [e0]; decide, by rw [e0]⟩⟩
    ·refine wF 29 c3 <| rV 1 <| nT <| cF <| rg_lit <| rV 2 ?_
     by_cases c4 : 4096 < (pl.size : Int)
     ·refine wT 32 c4 <| rV 1 <| nT <| cT <| sq <| wp_ret <| au_block_ret <| au_then_ret ?_
      have e0 : bgE sa ob ep pr pl = 4 := by simp only [bgE, if_pos c0, if_pos c1, if_pos c2, if_neg c3, if_pos c4]
      exact bX (.tuple #[.pointer none, .string zb, .int .i64 4]) ⟨below_grown M.old, .inl ⟨by rw [e0]; decide, by rw [e0]⟩⟩
     ·refine wF 32 c4 <| rV 1 <| nT <| cF <| wp_skip <| au_block <| au_then <| sR <| rV 4 <| pN M 37 (.cells (av 7 (stL ⟨⟨#[]⟩, ⟨#[]⟩, ⟨#[]⟩, 0⟩ [.string sa, .string ep, .string ob])) 89) fun g1 u1 M => rV 1 <| nT <| sR <| rV 5 <| ZY M 43 0 (.tuple #[]) (.cells (av 7 (stL (bS0 ob pr) [.string sa, .string ep, .string ob])) 89) (fun w M => c_begin g1 7 89 (by omega) ⟨⟨#[]⟩, ⟨#[]⟩, ⟨#[]⟩, 0⟩ [.string sa, .string ep, .string ob] pr ob (by omega) (by omega) w M.laid (M.get 0 rfl) (M.ne0 0 rfl)) fun u2 M => nT ?_
      refine sR <| rV 4 <| ZY M 48 0 (.string (pubF (bS0 ob pr) ep)) (.cells (av 7 (stL (bS1 ob ep pr) [.string sa, .string ep, .string ob])) 89) (fun w M => c_show g1 7 89 (by omega) (bS0 ob pr) [.string sa, .string ep, .string ob] ep (by omega) (Nat.le_of_eq (beginF_h _ _ _)) w M.laid (M.get 0 rfl) (M.ne0 0 rfl)) fun u3 M => rV 1 <| nT <| sR <| rV 5 <| ZY M 54 0 (.tuple #[]) (.cells (av 7 (stL (bS2 ob ep pr) [.string sa, .string ep, .string ob])) 89) (fun w M => c_add g1 7 89 (by omega) (bS1 ob ep pr) [.string sa, .string ep, .string ob] ep ob (by omega) (fun _ => by omega) w M.laid (M.get 0 rfl) (M.ne0 0 rfl)) fun u4 M => nT <| wp_seq <| rgh M [] 11 fun u5 M => ?_
      have qM := M.drop (.cons _ (.slnil))
      refine qV qM 0 55 (.string (pubF (bS0 ob pr) ep)) <| qV qM 1 56 (.pointer (some ⟨g1, 0, none⟩)) <| qV qM 2 57 (.pointer (some ⟨g1, 0, none⟩)) <| qV qM 3 58 (.pointer (some ⟨g1, 0, none⟩)) <| qV qM 4 59 (.pointer (some ⟨g1, 0, none⟩)) <| qV qM 5 60 (.pointer (some ⟨g1, 0, none⟩)) <| qV qM 6 61 (.pointer (some ⟨g1, 0, none⟩)) <| qV qM 7 62 (.string sa) <| qO 8 ?_
      refine ZY M 63 0 (.string (pubF (bS2 ob ep pr) sa)) (.cells (av 7 (stL (bS2 ob ep pr) [.string sa, .string ep, .string ob])) 89) (fun w M => c_public g1 7 89 (by omega) (bS2 ob ep pr) [.string sa, .string ep, .string ob] sa (by omega) w M.laid (M.get 0 rfl) (M.ne0 0 rfl)) fun u6 M => nT ?_
      refine ⟨(M.drop (.cons _ (.slnil))), ?_⟩
      refine qO 9 ?_
      refine ZY M 64 0 (.string (sealV (bS2 ob ep pr) (pubF (bS2 ob ep pr) sa))) (.cells (av 7 (stL (bS3 sa ob ep pr) [.string sa, .string ep, .string ob])) 89) (fun w M => c_seal g1 7 89 (by omega) (bS2 ob ep pr) [.string sa, .string ep, .string ob] (pubF (bS2 ob ep pr) sa) (bS2_h _ _ _) (fun h => addF_k h) (Nat.le_trans (pubF_le _ _) (by decide)) w M.laid (M.get 0 rfl) (M.ne0 0 rfl)) fun u7 M => nT ?_
      refine ⟨(M.drop (.cons _ (.slnil))), ?_⟩
      refine qH (M.drop (.cons _ (.slnil))) 10 65 (.string ((pubF (bS0 ob pr) ep) ++ (sealV (bS2 ob ep pr) (pubF (bS2 ob ep pr) sa)))) (fun w _ => (run_cat 9 9 _ _ rfl (pubF (bS0 ob pr) ep) (sealV (bS2 ob ep pr) (pubF (bS2 ob ep pr) sa)) (by kernel_rfl) (by kernel_rfl) (by have h1 := pubF_le (bS0 ob pr) ep; have h2 := sealV_le (bS2 ob ep pr) (pubF (bS2 ob ep pr) sa); have h3 := pubF_le (bS2 ob ep pr) sa; have h4 := sealV_le (bS4 sa ob ep pr) pl; (try simp only [ByteArray.size_append]); omega)) w) ?_
      refine qZ ?_
      refine rV 1 <| nT <| au_then <| sR <| rV 5 <| ZY M 71 0 (.tuple #[]) (.cells (av 7 (stL (bS4 sa ob ep pr) [.string sa, .string ep, .string ob])) 89) (fun w M => c_add g1 7 89 (by omega) (bS3 sa ob ep pr) [.string sa, .string ep, .string ob] sa ob (by omega) (fun _ => by omega) w M.laid (M.get 0 rfl) (M.ne0 0 rfl)) fun u8 M => nT <| sR <| rV 5 <| ZY M 77 0 (.string (sealV (bS4 sa ob ep pr) pl)) (.cells (av 7 (stL (bS5 sa ob ep pr pl) [.string sa, .string ep, .string ob])) 89) (fun w M => c_seal g1 7 89 (by omega) (bS4 sa ob ep pr) [.string sa, .string ep, .string ob] pl (bS4_h _ _ _ _) (fun h => addF_k h) (by omega) w M.laid (M.get 0 rfl) (M.ne0 0 rfl)) fun u9 M => ?_
      refine pH 78 (.string (((pubF (bS0 ob pr) ep) ++ (sealV (bS2 ob ep pr) (pubF (bS2 ob ep pr) sa))) ++ (sealV (bS4 sa ob ep pr) pl))) (run_cat 9 9 _ _ rfl ((pubF (bS0 ob pr) ep) ++ (sealV (bS2 ob ep pr) (pubF (bS2 ob ep pr) sa))) (sealV (bS4 sa ob ep pr) pl) (by kernel_rfl) (by kernel_rfl) (by have h1 := pubF_le (bS0 ob pr) ep; have h2 := sealV_le (bS2 ob ep pr) (pubF (bS2 ob ep pr) sa); have h3 := pubF_le (bS2 ob ep pr) sa; have h4 := sealV_le (bS4 sa ob ep pr) pl; (try simp only [ByteArray.size_append]); omega)) ?_
      refine rV 1 <| nT <| wp_seq <| sR <| rV 3 <| ZY M 82 0 (.int .i64 (bS5 sa ob ep pr pl).e) (.cells (av 7 (stL (endF (bS5 sa ob ep pr pl)) [.string sa, .string ep, .string ob])) 89) (fun w M => c_end g1 7 89 (by omega) (bS5 sa ob ep pr pl) [.string sa, .string ep, .string ob] w M.laid (M.get 0 rfl) (M.ne0 0 rfl)) fun u10 M => rV 1 <| nT <| sR <| rV 1 ?_
      by_cases c5 : ((bS5 sa ob ep pr pl).e) = 0
      ·refine wD 84 c5 <| nT <| cF <| wp_skip <| au_then <| sq <| wp_ret ?_
       have e0 : bgE sa ob ep pr pl = 0 := by simp only [bgE, if_pos c0, if_pos c1, if_pos c2, if_neg c3, if_neg c4, if_pos c5, c5]
       exact bX (.tuple #[.pointer (some ⟨g1, 0, none⟩), .string (((pubF (bS0 ob pr) ep) ++ (sealV (bS2 ob ep pr) (pubF (bS2 ob ep pr) sa))) ++ (sealV (bS4 sa ob ep pr) pl)), .int .i64 0]) ⟨below_grown M.old, .inr ⟨e0, g1, rfl, M.geAt 0 rfl, M.get 0 rfl⟩⟩
      ·refine wU 84 c5 <| nT <| cT <| sq <| wp_ret <| au_then_ret ?_
       have e0 : bgE sa ob ep pr pl = (bS5 sa ob ep pr pl).e := by simp only [bgE, if_pos c0, if_pos c1, if_pos c2, if_neg c3, if_neg c4, if_neg c5]
       exact bX (.tuple #[.pointer none, .string zb, .int .i64 (bS5 sa ob ep pr pl).e]) ⟨below_grown M.old, .inl ⟨by rw [e0]; exact c5, by rw [e0]⟩⟩
   ·refine wU 25 c2 <| rV 1 <| nT <| cT <| sq <| wp_ret <| au_block_ret <| au_then_ret ?_
    have e0 : bgE sa ob ep pr pl = 2 := by simp only [bgE, if_pos c0, if_pos c1, if_neg c2]
    exact bX (.tuple #[.pointer none, .string zb, .int .i64 2]) ⟨below_grown M.old, .inl ⟨by rw [e0]; decide, by rw [e0]⟩⟩
  ·refine wU 22 c1 <| rV 1 <| nT <| cT <| wp_skip <| au_then <| cT <| sq <| wp_ret <| au_block_ret <| au_then_ret ?_
   have e0 : bgE sa ob ep pr pl = 2 := by simp only [bgE, if_pos c0, if_neg c1]
   exact bX (.tuple #[.pointer none, .string zb, .int .i64 2]) ⟨below_grown M.old, .inl ⟨by rw [e0]; decide, by rw [e0]⟩⟩
 ·refine wU 19 c0 <| rV 1 <| nT <| cT <| wp_skip <| au_then <| cT <| sq <| wp_ret <| au_block_ret <| au_then_ret ?_
  have e0 : bgE sa ob ep pr pl = 2 := by simp only [bgE, if_neg c0]
  exact bX (.tuple #[.pointer none, .string zb, .int .i64 2]) ⟨below_grown M.old, .inl ⟨by rw [e0]; decide, by rw [e0]⟩⟩
theorem c_Read (sb pr m : Yb) (w : World) (hL : Laid w) : Calls Tryz.prog 17 #[.string sb, .string pr, .string m] w fun r w' => Below w.heap.size w w' ∧ ((rdE sb pr m ≠ 0 ∧ r = .returned (.tuple #[.pointer none, .agg (av 5 (zq 5)), .int .i64 (rdE sb pr m)])) ∨ (rdE sb pr m = 0 ∧ ∃ g, r = .returned (.tuple #[.pointer (some ⟨g, 0, none⟩), .agg (av 5 (sQ [rF sb pr m, rP sb pr m, zb, zb, zb])), .int .i64 0]) ∧ w.heap.size ≤ g ∧ w'.heap[g]? = some (.cells (av 6 (stL (endF (rS5 sb pr m)) [.string (rF sb pr m), .string (rE m)])) 94))) := by
 go_enter Tryz.func17, Tryz.ntmps17
 have M := Mem.start hL
 refine sR <| rV 1 <| pN M 7 (.cells (av 5 (zq 5)) 61) fun g1 u1 M => rV 1 <| nT <| wp_seq <| wp_block <| sR <| rV 2 ?_
 by_cases c0 : (sb.size : Int) = 32
 ·refine wD 15 c0 <| rV 1 <| nT <| cF <| wp_seq <| sR <| rV 2 ?_
  by_cases c1 : 4096 < (pr.size : Int)
  ·refine wT 20 c1 <| rV 1 <| nT <| cT <| wp_skip <| au_then <| cT <| sR <| rV 2 <| ZL M 0 5 (zq 5) fun u2 M => rV 1 <| nT <| wp_ret <| au_block_ret <| au_then_ret ?_
   have e0 : rdE sb pr m = 4 := by simp only [rdE, if_pos c0, if_pos c1]
   exact btct Tryz.results17 M (.pointer none) 0 5 (zq 5) (.int .i64 4) ⟨below_grown M.old, .inl ⟨by rw [e0]; decide, by rw [e0]⟩⟩
  ·refine wF 20 c1 <| rV 1 <| nT <| cF <| rg_lit <| rV 2 ?_
   by_cases c2 : 4192 < (m.size : Int)
   ·refine wT 23 c2 <| rV 1 <| nT <| cT <| sR <| rV 2 <| ZL M 0 5 (zq 5) fun u2 M => rV 1 <| nT <| wp_ret <| au_block_ret <| au_then_ret ?_
    have e0 : rdE sb pr m = 4 := by simp only [rdE, if_pos c0, if_neg c1, if_pos c2]
    exact btct Tryz.results17 M (.pointer none) 0 5 (zq 5) (.int .i64 4) ⟨below_grown M.old, .inl ⟨by rw [e0]; decide, by rw [e0]⟩⟩
   ·refine wF 23 c2 <| rV 1 <| nT <| cF <| sR <| rV 2 ?_
    by_cases c3 : (m.size : Int) < 96
    ·refine wT 28 c3 <| rV 1 <| nT <| cT <| sR <| rV 2 <| ZL M 0 5 (zq 5) fun u2 M => rV 1 <| nT <| wp_ret <| au_block_ret <| au_then_ret ?_
     have e0 : rdE sb pr m = 7 := by simp only [rdE, if_pos c0, if_neg c1, if_neg c2, if_pos c3]
     exact btct Tryz.results17 M (.pointer none) 0 5 (zq 5) (.int .i64 7) ⟨below_grown M.old, .inl ⟨by rw [e0]; decide, by rw [e0]⟩⟩
    ·refine wF 28 c3 <| rV 1 <| nT <| cF <| wp_skip <| au_block <| au_then <| sR <| rV 1 <| pH 31 (.string (rE m)) (run_strh 9 Tryz.underlying9 _ _ rfl m (by kernel_rfl) .i64 32 (by kernel_rfl) (by omega) _ rfl) <| rV 1 <| pN M 33 (.cells (av 6 (stL ⟨⟨#[]⟩, ⟨#[]⟩, ⟨#[]⟩, 0⟩ [.string zb, .string (rE m)])) 94) fun g2 u2 M => rV 1 <| nT <| wp_seq <| rgh M [⟨g1, .cells (av 5 (zq 5)) 61⟩] 9 fun u3 M => ?_
     have qM := M.drop (.cons_cons _ (.cons _ (.slnil)))
     refine qV qM 0 34 (.pointer (some ⟨g2, 0, none⟩)) <| qV qM 1 35 (.pointer (some ⟨g2, 0, none⟩)) <| qV qM 2 36 (.pointer (some ⟨g2, 0, none⟩)) <| qV qM 3 37 (.string pr) <| qV qM 4 38 (.pointer (some ⟨g2, 0, none⟩)) <| qV qM 5 39 (.pointer (some ⟨g2, 0, none⟩)) <| qV qM 6 40 (.pointer (some ⟨g2, 0, none⟩)) <| qV qM 7 41 (.string sb) <| qO 8 ?_
     refine ZY M 42 1 (.string (pubF ⟨⟨#[]⟩, ⟨#[]⟩, ⟨#[]⟩, 0⟩ sb)) (.cells (av 6 (stL ⟨⟨#[]⟩, ⟨#[]⟩, ⟨#[]⟩, 0⟩ [.string zb, .string (rE m)])) 94) (fun w M => c_public g2 6 94 (by omega) ⟨⟨#[]⟩, ⟨#[]⟩, ⟨#[]⟩, 0⟩ [.string zb, .string (rE m)] sb (by omega) w M.laid (M.get 1 rfl) (M.ne0 1 rfl)) fun u4 M => nT ?_
     refine ⟨(M.drop (.cons_cons _ (.cons _ (.slnil)))), ?_⟩
     refine qZ ?_
     refine ZY M 43 1 (.tuple #[]) (.cells (av 6 (stL (rS0 sb pr) [.string zb, .string (rE m)])) 94) (fun w M => c_begin g2 6 94 (by omega) ⟨⟨#[]⟩, ⟨#[]⟩, ⟨#[]⟩, 0⟩ [.string zb, .string (rE m)] pr (pubF ⟨⟨#[]⟩, ⟨#[]⟩, ⟨#[]⟩, 0⟩ sb) (by omega) (Nat.le_trans (pubF_le _ _) (by decide)) w M.laid (M.get 1 rfl) (M.ne0 1 rfl)) fun u5 M => nT <| au_then <| wp_seq <| rgh M [⟨g1, .cells (av 5 (zq 5)) 61⟩, ⟨g2, .cells (av 6 (stL (rS0 sb pr) [.string zb, .string (rE m)])) 94⟩] 7 fun u6 M => qV M 0 44 (.pointer (some ⟨g2, 0, none⟩)) <| qV M 1 45 (.pointer (some ⟨g2, 0, none⟩)) <| qV M 2 46 (.pointer (some ⟨g2, 0, none⟩)) <| qV M 3 47 (.pointer (some ⟨g2, 0, none⟩)) <| qV M 4 48 (.pointer (some ⟨g2, 0, none⟩)) <| qV M 5 49 (.pointer (some ⟨g2, 5, none⟩)) <| qE M 6 50 1 5 <| qZ ?_
     refine ZY M 51 1 (.tuple #[]) (.cells (av 6 (stL (rS1 sb pr m) [.string zb, .string (rE m)])) 94) (fun w M => c_mixS g2 6 94 (by omega) (rS0 sb pr) [.string zb, .string (rE m)] (rE m) (by rw [show (rS0 sb pr).h.size = 32 from beginF_h _ _ _, rE_size (by omega)]; decide) w M.laid (M.get 1 rfl) (M.ne0 1 rfl)) fun u7 M => ?_
     refine nT <| au_then <| wp_seq <| rgh M [⟨g1, .cells (av 5 (zq 5)) 61⟩, ⟨g2, .cells (av 6 (stL (rS1 sb pr m) [.string zb, .string (rE m)])) 94⟩] 8 fun u8 M => qV M 0 52 (.pointer (some ⟨g2, 0, none⟩)) <| qV M 1 53 (.pointer (some ⟨g2, 0, none⟩)) <| qV M 2 54 (.pointer (some ⟨g2, 0, none⟩)) <| qV M 3 55 (.string sb) <| qV M 4 56 (.pointer (some ⟨g2, 0, none⟩)) <| qV M 5 57 (.pointer (some ⟨g2, 0, none⟩)) <| qV M 6 58 (.pointer (some ⟨g2, 5, none⟩)) <| qE M 7 59 1 5 <| qZ ?_
     refine ZY M 60 1 (.tuple #[]) (.cells (av 6 (stL (rS2 sb pr m) [.string zb, .string (rE m)])) 94) (fun w M => c_add g2 6 94 (by omega) (rS1 sb pr m) [.string zb, .string (rE m)] sb (rE m) (by omega) (fun _ => rE_size (by omega)) w M.laid (M.get 1 rfl) (M.ne0 1 rfl)) fun u9 M => nT <| au_then <| wp_seq <| rgh M [⟨g1, .cells (av 5 (zq 5)) 61⟩] 9 fun u10 M => ?_
     have qM := M.drop (.cons_cons _ (.cons _ (.slnil)))
     refine qV qM 0 61 (.pointer (some ⟨g2, 0, none⟩)) <| qV qM 1 62 (.pointer (some ⟨g2, 0, none⟩)) <| qV qM 2 63 (.pointer (some ⟨g2, 0, none⟩)) <| qV qM 3 64 (.pointer (some ⟨g2, 0, none⟩)) <| qV qM 4 65 (.string m) <| qH qM 5 66 (.string (rC1 m)) (fun w _ => (run_strlh 9 Tryz.underlying9 _ _ _ rfl m (by kernel_rfl) .i64 .i64 32 80 (by kernel_rfl) (by kernel_rfl) (by omega) (by omega)) w) <| qO 6 ?_
     refine ZY M 67 1 (.string (rF sb pr m)) (.cells (av 6 (stL (rS3 sb pr m) [.string zb, .string (rE m)])) 94) (fun w M => c_open g2 6 94 (by omega) (rS2 sb pr m) [.string zb, .string (rE m)] (rC1 m) (rS2_h _ _ _) (fun h => addF_k h) (by rw [rC1_size (by omega)]; omega) (by rw [rC1_size (by omega)]; omega) w M.laid (M.get 1 rfl) (M.ne0 1 rfl)) fun u11 M => ?_
     refine nT ?_
     refine ⟨(M.drop (.cons_cons _ (.cons _ (.slnil)))), ?_⟩
     have qM := M.drop (.cons_cons _ (.cons _ (.slnil)))
     refine qV qM 7 68 (.pointer (some ⟨g2, 0, none⟩)) <| qV qM 8 69 (.pointer (some ⟨g2, 4, none⟩)) <| qZ ?_
     refine pP M 1 rfl 4 (.string (rF sb pr m)) (stL (rS3 sb pr m) [.string (rF sb pr m), .string (rE m)]) (by decide) (put_ls _ 4 _ _ rfl) fun u12 M => nT <| au_then <| wp_seq <| rgh M [⟨g1, .cells (av 5 (zq 5)) 61⟩, ⟨g2, .cells (av 6 (stL (rS3 sb pr m) [.string (rF sb pr m), .string (rE m)])) 94⟩] 8 fun u13 M => qV M 0 70 (.pointer (some ⟨g2, 0, none⟩)) <| qV M 1 71 (.pointer (some ⟨g2, 0, none⟩)) <| qV M 2 72 (.pointer (some ⟨g2, 0, none⟩)) <| qV M 3 73 (.string sb) <| qV M 4 74 (.pointer (some ⟨g2, 0, none⟩)) <| qV M 5 75 (.pointer (some ⟨g2, 0, none⟩)) <| qV M 6 76 (.pointer (some ⟨g2, 4, none⟩)) <| qE M 7 77 1 4 <| qZ ?_
     refine ZY M 78 1 (.tuple #[]) (.cells (av 6 (stL (rS4 sb pr m) [.string (rF sb pr m), .string (rE m)])) 94) (fun w M => c_add g2 6 94 (by omega) (rS3 sb pr m) [.string (rF sb pr m), .string (rE m)] sb (rF sb pr m) (by omega) (fun h => rF_size (by omega) h) w M.laid (M.get 1 rfl) (M.ne0 1 rfl)) fun u14 M => nT <| au_then <| wp_seq <| rgh M [⟨g1, .cells (av 5 (zq 5)) 61⟩] 6 fun u15 M => ?_
     have qM := M.drop (.cons_cons _ (.cons _ (.slnil)))
     refine qV qM 0 79 (.pointer (some ⟨g2, 0, none⟩)) <| qV qM 1 80 (.pointer (some ⟨g2, 0, none⟩)) <| qV qM 2 81 (.pointer (some ⟨g2, 0, none⟩)) <| qV qM 3 82 (.string m) <| qH qM 4 83 (.string (rC2 m)) (fun w _ => (run_strl 9 Tryz.underlying9 _ _ rfl m (by kernel_rfl) .i64 80 (by kernel_rfl) (by omega) _ rfl) w) <| qO 5 ?_
     refine ZY M 84 1 (.string (rP sb pr m)) (.cells (av 6 (stL (rS5 sb pr m) [.string (rF sb pr m), .string (rE m)])) 94) (fun w M => c_open g2 6 94 (by omega) (rS4 sb pr m) [.string (rF sb pr m), .string (rE m)] (rC2 m) (rS4_h _ _ _) (fun h => addF_k h) (by rw [rC2_size (by omega)]; omega) (by rw [rC2_size (by omega)]; omega) w M.laid (M.get 1 rfl) (M.ne0 1 rfl)) fun u16 M => ?_
     refine nT ?_
     refine ⟨(M.drop (.cons_cons _ (.cons _ (.slnil)))), ?_⟩
     refine qZ ?_
     refine rV 1 <| nT <| au_then <| wp_seq <| sR <| rV 3 <| ZY M 88 1 (.int .i64 (rS5 sb pr m).e) (.cells (av 6 (stL (endF (rS5 sb pr m)) [.string (rF sb pr m), .string (rE m)])) 94) (fun w M => c_end g2 6 94 (by omega) (rS5 sb pr m) [.string (rF sb pr m), .string (rE m)] w M.laid (M.get 1 rfl) (M.ne0 1 rfl)) fun u17 M => rV 1 <| nT <| sR <| rV 1 ?_
     by_cases c4 : ((rS5 sb pr m).e) = 0
     ·refine wD 90 c4 <| nT <| cF <| wp_skip <| au_then <| wp_seq <| rgh M [⟨g2, .cells (av 6 (stL (endF (rS5 sb pr m)) [.string (rF sb pr m), .string (rE m)])) 94⟩] 9 fun u18 M => ?_
      have qM := M.drop (.cons _ (.cons_cons _ (.slnil)))
      refine qV qM 0 93 (.pointer (some ⟨g2, 0, none⟩)) <| qV qM 1 94 (.pointer (some ⟨g2, 0, none⟩)) <| qV qM 2 95 (.pointer (some ⟨g2, 0, none⟩)) <| qV qM 3 96 (.pointer (some ⟨g2, 4, none⟩)) <| qE qM 4 97 0 4 <| qV qM 5 98 (.string (rP sb pr m)) <| qV qM 6 99 (.agg (av 5 (sQ [rF sb pr m, rP sb pr m, zb, zb, zb]))) <| qV qM 7 6 (.pointer (some ⟨g2, 0, none⟩)) <| qO 8 ?_
      refine ZL M 0 5 (sQ [rF sb pr m, rP sb pr m, zb, zb, zb]) fun u19 M => nT ?_
      refine ⟨(M.drop (.cons _ (.cons_cons _ (.slnil)))), ?_⟩
      refine qZ ?_
      refine rV 1 <| nT <| au_then <| wp_ret ?_
      have e0 : rdE sb pr m = 0 := by simp only [rdE, if_pos c0, if_neg c1, if_neg c2, if_neg c3, if_pos c4, c4]
      exact btct Tryz.results17 M (.pointer (some ⟨g2, 0, none⟩)) 0 5 (sQ [rF sb pr m, rP sb pr m, zb, zb, zb]) (.int .i64 0) ⟨below_grown M.old, .inr ⟨e0, g2, rfl, M.geAt 1 rfl, M.get 1 rfl⟩⟩
     ·refine wU 90 c4 <| nT <| cT <| sR <| rV 3 <| ZL M 0 5 (zq 5) fun u18 M => rV 1 <| nT <| wp_ret <| au_then_ret ?_
      have e0 : rdE sb pr m = (rS5 sb pr m).e := by simp only [rdE, if_pos c0, if_neg c1, if_neg c2, if_neg c3, if_neg c4]
      exact btct Tryz.results17 M (.pointer none) 0 5 (zq 5) (.int .i64 (rS5 sb pr m).e) ⟨below_grown M.old, .inl ⟨by rw [e0]; exact c4, by rw [e0]⟩⟩
 ·refine wU 15 c0 <| rV 1 <| nT <| cT <| sR <| rV 2 <| ZL M 0 5 (zq 5) fun u2 M => rV 1 <| nT <| wp_ret <| au_block_ret <| au_then_ret ?_
  have e0 : rdE sb pr m = 2 := by simp only [rdE, if_neg c0]
  exact btct Tryz.results17 M (.pointer none) 0 5 (zq 5) (.int .i64 2) ⟨below_grown M.old, .inl ⟨by rw [e0]; decide, by rw [e0]⟩⟩
open Go.RowKit
theorem aS3_h (s : St) (f x e : Yb) : (aS3 s f x e).h.size = 32 := by
 unfold aS3 aS2
 rw [addF_h, addF_h]
 exact mixF_h _ _
theorem fS3_h (s : St) (a e r : Yb) : (fS3 s a e r).h.size = 32 := by
 unfold fS3 fS2
 rw [addF_h, addF_h]
 exact mixF_h _ _
theorem fC_size {r : Yb} (h : 48 ≤ r.size) : (fC r).size = r.size - 32 := by
 unfold fC
 rw [ByteArray.size_extract]
 omega
theorem c_Answer (g : Nat) (s : St) (f x ep pl : Yb) (hs : s.h.size = 32) (hf : f.size = 32) (hx : x.size = 32) (w : World) (hL : Laid w)  (hg : w.heap[g]? = some (.cells (av 6 (stL s [.string f, .string x])) 94)) (h0 : 2 < g) : Calls Tryz.prog 18 #[.pointer (some ⟨g, 0, none⟩), .string ep, .string pl] w fun r w' => Below w.heap.size w w' ∧ ((anE s f x ep pl ≠ 0 ∧ r = .returned (.tuple #[.string zb, .agg (av 5 (zq 5)), .int .i64 (anE s f x ep pl)])) ∨ (anE s f x ep pl = 0 ∧ r = .returned (.tuple #[.string (aRp s f x ep pl), .agg (av 5 (sQ [f, zb, nxB (aS4 s f x ep pl).c ⟨#[]⟩, nxA (aS4 s f x ep pl).c ⟨#[]⟩, (aS4 s f x ep pl).h])), .int .i64 0]))) := by
 go_enter Tryz.func18, Tryz.ntmps18
 have M := Mem.startp hL hg h0
 refine sR <| rV 1 <| pN M 7 (.cells (av 5 (zq 5)) 61) fun g1 u1 M => rV 1 <| nT <| wp_seq <| wp_block <| sR <| rV 6 <| pl_call M (by kernel_rfl) (some 21) rfl 39 #[.pointer (some ⟨g, 0, none⟩)] (.bool true) (fun _ => by kernel_rfl) (fun w M => c_made g 6 94 (by omega) s [.string f, .string x] hs w M.laid (M.get 0 rfl) (M.ne0 0 rfl)) fun u2 M => rV 3 <| nT <| cF <| sR <| rV 2 ?_
 by_cases c0 : (ep.size : Int) = 32
 ·refine wD 28 c0 <| rV 1 <| nT <| cF <| sR <| rV 2 ?_
  by_cases c1 : 4096 < (pl.size : Int)
  ·refine wT 33 c1 <| rV 1 <| nT <| cT <| sR <| rV 2 <| ZL M 1 5 (zq 5) fun u3 M => rV 1 <| nT <| wp_ret <| au_block_ret <| au_then_ret ?_
   have e0 : anE s f x ep pl = 4 := by simp only [anE, if_pos c0, if_pos c1]
   exact btct Tryz.results18 M (.string zb) 1 5 (zq 5) (.int .i64 4) ⟨ro_below1 M.old hg (M.get 0 rfl), .inl ⟨by rw [e0]; decide, by rw [e0]⟩⟩
  ·refine wF 33 c1 <| rV 1 <| nT <| cF <| wp_skip <| au_block <| au_then <| sR <| rV 3 <| pl_load M (want_no rfl) (some 38) rfl 87 _ rfl 0 g 0 (by kernel_rfl) 6 94 (stL s [.string f, .string x]) rfl 4 (stL s []) (part_st _ _) (by omega) _ Tryz.underlying87 rfl inz87 <| pN M 9 (.cells (av 4 (stL ⟨⟨#[]⟩, ⟨#[]⟩, ⟨#[]⟩, 0⟩ [])) 87) fun g2 u3 M => pl_put M (want_no rfl) rfl 87 _ _ rfl 2 g2 0 (by kernel_rfl) 4 87 (stL ⟨⟨#[]⟩, ⟨#[]⟩, ⟨#[]⟩, 0⟩ []) rfl 4 (stL s []) (stL s []) (by kernel_rfl) inz87 (by decide) (one_st _) (fun j hj => by rw [if_pos (by omega), Nat.sub_zero]) fun u4 M => nT <| sR <| rV 1 <| ZY M 40 2 (.string (pubF s ep)) (.cells (av 4 (stL (aS1 s ep) [])) 87) (fun w M => c_show g2 4 87 (by omega) s [] ep (by omega) (Nat.le_of_eq (hs)) w M.laid (M.get 2 rfl) (M.ne0 2 rfl)) fun u5 M => ?_
   refine rV 1 <| nT <| sR <| rV 4 <| ZE M 45 0 5 <| ZY M 46 2 (.tuple #[]) (.cells (av 4 (stL (aS2 s x ep) [])) 87) (fun w M => c_add g2 4 87 (by omega) (aS1 s ep) [] ep x (by omega) (fun _ => by omega) w M.laid (M.get 2 rfl) (M.ne0 2 rfl)) fun u6 M => nT <| sR <| rV 4 <| ZE M 51 0 4 <| ZY M 52 2 (.tuple #[]) (.cells (av 4 (stL (aS3 s f x ep) [])) 87) (fun w M => c_add g2 4 87 (by omega) (aS2 s x ep) [] ep f (by omega) (fun _ => by omega) w M.laid (M.get 2 rfl) (M.ne0 2 rfl)) fun u7 M => nT <| sR <| rV 2 <| ZY M 55 2 (.string (sealV (aS3 s f x ep) pl)) (.cells (av 4 (stL (aS4 s f x ep pl) [])) 87) (fun w M => c_seal g2 4 87 (by omega) (aS3 s f x ep) [] pl (aS3_h _ _ _ _) (fun h => addF_k h) (by omega) w M.laid (M.get 2 rfl) (M.ne0 2 rfl)) fun u8 M => ?_
   refine pH 56 (.string ((pubF s ep) ++ (sealV (aS3 s f x ep) pl))) (run_cat 9 9 _ _ rfl (pubF s ep) (sealV (aS3 s f x ep) pl) (by kernel_rfl) (by kernel_rfl) (by have h1 := pubF_le s ep; have h2 := sealV_le (aS3 s f x ep) pl; (try simp only [ByteArray.size_append]); omega)) ?_
   refine rV 1 <| nT <| sR <| ZC M 58 (fun w M => c_next g2 4 87 (by omega) (aS4 s f x ep pl) [] ⟨#[]⟩ (by decide) w M.laid (M.get 2 rfl) (M.ne0 2 rfl)) fun u9 M => rV 5 <| nT <| wp_seq <| sR <| ZY M 61 2 (.int .i64 (aS4 s f x ep pl).e) (.cells (av 4 (stL (endF (aS4 s f x ep pl)) [])) 87) (fun w M => c_end g2 4 87 (by omega) (aS4 s f x ep pl) [] w M.laid (M.get 2 rfl) (M.ne0 2 rfl)) fun u10 M => rV 1 <| nT <| sR <| rV 1 ?_
   by_cases c2 : ((aS4 s f x ep pl).e) = 0
   ·refine wD 63 c2 <| nT <| cF <| wp_skip <| au_then <| wp_seq <| rgh M [⟨g, .cells (av 6 (stL s [.string f, .string x])) 94⟩, ⟨g2, .cells (av 4 (stL (endF (aS4 s f x ep pl)) [])) 87⟩] 12 fun u11 M => ?_
    have qM := M.drop (.cons_cons _ (.cons _ (.cons_cons _ (.slnil))))
    refine qV qM 0 66 (.string ((pubF s ep) ++ (sealV (aS3 s f x ep) pl))) <| qV qM 1 67 (.pointer (some ⟨g, 0, none⟩)) <| qV qM 2 68 (.pointer (some ⟨g, 0, none⟩)) <| qV qM 3 69 (.pointer (some ⟨g, 4, none⟩)) <| qE qM 4 70 0 4 <| qV qM 5 71 (.string (nxB ((aS4 s f x ep pl).c) ⟨#[]⟩)) <| qV qM 6 72 (.string (nxA ((aS4 s f x ep pl).c) ⟨#[]⟩)) <| qV qM 7 73 (.pointer (some ⟨g2, 0, none⟩)) <| qE qM 8 74 1 0 <| qV qM 9 75 (.agg (av 5 (sQ [f, zb, nxB ((aS4 s f x ep pl).c) ⟨#[]⟩, nxA ((aS4 s f x ep pl).c) ⟨#[]⟩, (endF (aS4 s f x ep pl)).h]))) <| qV qM 10 6 (.string ((pubF s ep) ++ (sealV (aS3 s f x ep) pl))) <| qO 11 ?_
    refine ZL M 1 5 (sQ [f, zb, nxB ((aS4 s f x ep pl).c) ⟨#[]⟩, nxA ((aS4 s f x ep pl).c) ⟨#[]⟩, (endF (aS4 s f x ep pl)).h]) fun u12 M => nT ?_
    refine ⟨(M.drop (.cons_cons _ (.cons _ (.cons_cons _ (.slnil))))), ?_⟩
    refine qZ ?_
    refine rV 1 <| nT <| au_then <| wp_ret ?_
    have e0 : anE s f x ep pl = 0 := by simp only [anE, if_pos c0, if_neg c1, if_pos c2, c2]
    exact btct Tryz.results18 M (.string ((pubF s ep) ++ (sealV (aS3 s f x ep) pl))) 1 5 (sQ [f, zb, nxB ((aS4 s f x ep pl).c) ⟨#[]⟩, nxA ((aS4 s f x ep pl).c) ⟨#[]⟩, (endF (aS4 s f x ep pl)).h]) (.int .i64 0) ⟨ro_below1 M.old hg (M.get 0 rfl), .inr ⟨e0, rfl⟩⟩
   ·refine wU 63 c2 <| nT <| cT <| sR <| rV 3 <| ZL M 1 5 (zq 5) fun u11 M => rV 1 <| nT <| wp_ret <| au_then_ret ?_
    have e0 : anE s f x ep pl = (aS4 s f x ep pl).e := by simp only [anE, if_pos c0, if_neg c1, if_neg c2]
    exact btct Tryz.results18 M (.string zb) 1 5 (zq 5) (.int .i64 (aS4 s f x ep pl).e) ⟨ro_below1 M.old hg (M.get 0 rfl), .inl ⟨by rw [e0]; exact c2, by rw [e0]⟩⟩
 ·refine wU 28 c0 <| rV 1 <| nT <| cT <| sR <| rV 2 <| ZL M 1 5 (zq 5) fun u3 M => rV 1 <| nT <| wp_ret <| au_block_ret <| au_then_ret ?_
  have e0 : anE s f x ep pl = 2 := by simp only [anE, if_neg c0]
  exact btct Tryz.results18 M (.string zb) 1 5 (zq 5) (.int .i64 2) ⟨ro_below1 M.old hg (M.get 0 rfl), .inl ⟨by rw [e0]; decide, by rw [e0]⟩⟩
theorem c_Finish (g : Nat) (s : St) (sa ep ob rp : Yb) (hs : s.h.size = 32) (ha : sa.size = 32) (hp : ep.size = 32) (w : World) (hL : Laid w)  (hg : w.heap[g]? = some (.cells (av 7 (stL s [.string sa, .string ep, .string ob])) 89)) (h0 : 2 < g) : Calls Tryz.prog 19 #[.pointer (some ⟨g, 0, none⟩), .string rp] w fun r w' => Below w.heap.size w w' ∧ ((fiE s sa ep rp ≠ 0 ∧ r = .returned (.tuple #[.agg (av 5 (zq 5)), .int .i64 (fiE s sa ep rp)])) ∨ (fiE s sa ep rp = 0 ∧ r = .returned (.tuple #[.agg (av 5 (sQ [ob, fP s sa ep rp, nxA (fS4 s sa ep rp).c ⟨#[]⟩, nxB (fS4 s sa ep rp).c ⟨#[]⟩, (fS4 s sa ep rp).h])), .int .i64 0]))) := by
 go_enter Tryz.func19, Tryz.ntmps19
 have M := Mem.startp hL hg h0
 refine sR <| pN M 4 (.cells (av 5 (zq 5)) 61) fun g1 u1 M => rV 1 <| nT <| wp_seq <| wp_block <| sR <| rV 6 <| pl_call M (by kernel_rfl) (some 19) rfl 39 #[.pointer (some ⟨g, 0, none⟩)] (.bool true) (fun _ => by kernel_rfl) (fun w M => c_made g 7 89 (by omega) s [.string sa, .string ep, .string ob] hs w M.laid (M.get 0 rfl) (M.ne0 0 rfl)) fun u2 M => rV 3 <| nT <| cF <| sR <| rV 2 ?_
 by_cases c0 : 4144 < (rp.size : Int)
 ·refine wT 26 c0 <| rV 1 <| nT <| cT <| sR <| rV 1 <| ZL M 1 5 (zq 5) fun u3 M => rV 1 <| nT <| wp_ret <| au_block_ret <| au_then_ret ?_
  have e0 : fiE s sa ep rp = 4 := by simp only [fiE, if_pos c0]
  exact bct Tryz.results19 M 1 5 (zq 5) (.int .i64 4) ⟨ro_below1 M.old hg (M.get 0 rfl), .inl ⟨by rw [e0]; decide, by rw [e0]⟩⟩
 ·refine wF 26 c0 <| rV 1 <| nT <| cF <| sR <| rV 2 ?_
  by_cases c1 : (rp.size : Int) < 48
  ·refine wT 31 c1 <| rV 1 <| nT <| cT <| sR <| rV 1 <| ZL M 1 5 (zq 5) fun u3 M => rV 1 <| nT <| wp_ret <| au_block_ret <| au_then_ret ?_
   have e0 : fiE s sa ep rp = 7 := by simp only [fiE, if_neg c0, if_pos c1]
   exact bct Tryz.results19 M 1 5 (zq 5) (.int .i64 7) ⟨ro_below1 M.old hg (M.get 0 rfl), .inl ⟨by rw [e0]; decide, by rw [e0]⟩⟩
  ·refine wF 31 c1 <| rV 1 <| nT <| cF <| wp_skip <| au_block <| au_then <| sR <| rV 1 <| pH 34 (.string (rE rp)) (run_strh 9 Tryz.underlying9 _ _ rfl rp (by kernel_rfl) .i64 32 (by kernel_rfl) (by omega) _ rfl) <| rV 1 <| nT <| sR <| rV 3 <| pl_load M (want_no rfl) (some 38) rfl 87 _ rfl 0 g 0 (by kernel_rfl) 7 89 (stL s [.string sa, .string ep, .string ob]) rfl 4 (stL s []) (part_st _ _) (by omega) _ Tryz.underlying87 rfl inz87 <| pN M 7 (.cells (av 4 (stL ⟨⟨#[]⟩, ⟨#[]⟩, ⟨#[]⟩, 0⟩ [])) 87) fun g2 u3 M => ?_
   refine pl_put M (want_no rfl) rfl 87 _ _ rfl 2 g2 0 (by kernel_rfl) 4 87 (stL ⟨⟨#[]⟩, ⟨#[]⟩, ⟨#[]⟩, 0⟩ []) rfl 4 (stL s []) (stL s []) (by kernel_rfl) inz87 (by decide) (one_st _) (fun j hj => by rw [if_pos (by omega), Nat.sub_zero]) fun u4 M => nT <| sR <| rV 1 ?_
   refine ZY M 40 2 (.tuple #[]) (.cells (av 4 (stL (fS1 s rp) [])) 87) (fun w M => c_mixS g2 4 87 (by omega) s [] (rE rp) (by rw [hs, rE_size (by omega)]; decide) w M.laid (M.get 2 rfl) (M.ne0 2 rfl)) fun u5 M => ?_
   refine nT <| sR <| rV 3 <| ZE M 44 0 5 <| rV 1 <| ZY M 46 2 (.tuple #[]) (.cells (av 4 (stL (fS2 s ep rp) [])) 87) (fun w M => c_add g2 4 87 (by omega) (fS1 s rp) [] ep (rE rp) (by omega) (fun _ => rE_size (by omega)) w M.laid (M.get 2 rfl) (M.ne0 2 rfl)) fun u6 M => nT <| sR <| rV 3 <| ZE M 50 0 4 <| rV 1 <| ZY M 52 2 (.tuple #[]) (.cells (av 4 (stL (fS3 s sa ep rp) [])) 87) (fun w M => c_add g2 4 87 (by omega) (fS2 s ep rp) [] sa (rE rp) (by omega) (fun _ => rE_size (by omega)) w M.laid (M.get 2 rfl) (M.ne0 2 rfl)) fun u7 M => nT <| sR <| rV 1 <| pH 54 (.string (fC rp)) (run_strl 9 Tryz.underlying9 _ _ rfl rp (by kernel_rfl) .i64 32 (by kernel_rfl) (by omega) _ rfl) ?_
   refine ZY M 55 2 (.string (fP s sa ep rp)) (.cells (av 4 (stL (fS4 s sa ep rp) [])) 87) (fun w M => c_open g2 4 87 (by omega) (fS3 s sa ep rp) [] (fC rp) (fS3_h _ _ _ _) (fun h => addF_k h) (by rw [fC_size (by omega)]; omega) (by rw [fC_size (by omega)]; omega) w M.laid (M.get 2 rfl) (M.ne0 2 rfl)) fun u8 M => ?_
   refine rV 1 <| nT <| sR <| ZC M 57 (fun w M => c_next g2 4 87 (by omega) (fS4 s sa ep rp) [] ⟨#[]⟩ (by decide) w M.laid (M.get 2 rfl) (M.ne0 2 rfl)) fun u9 M => rV 5 <| nT <| wp_seq <| sR <| ZY M 60 2 (.int .i64 (fS4 s sa ep rp).e) (.cells (av 4 (stL (endF (fS4 s sa ep rp)) [])) 87) (fun w M => c_end g2 4 87 (by omega) (fS4 s sa ep rp) [] w M.laid (M.get 2 rfl) (M.ne0 2 rfl)) fun u10 M => rV 1 <| nT <| sR <| rV 1 ?_
   by_cases c2 : ((fS4 s sa ep rp).e) = 0
   ·refine wD 62 c2 <| nT <| cF <| wp_skip <| au_then <| wp_seq <| rgh M [⟨g, .cells (av 7 (stL s [.string sa, .string ep, .string ob])) 89⟩, ⟨g2, .cells (av 4 (stL (endF (fS4 s sa ep rp)) [])) 87⟩] 11 fun u11 M => ?_
    have qM := M.drop (.cons_cons _ (.cons _ (.cons_cons _ (.slnil))))
    refine qV qM 0 65 (.pointer (some ⟨g, 0, none⟩)) <| qV qM 1 66 (.pointer (some ⟨g, 0, none⟩)) <| qV qM 2 67 (.pointer (some ⟨g, 6, none⟩)) <| qE qM 3 68 0 6 <| qV qM 4 69 (.string (fP s sa ep rp)) <| qV qM 5 70 (.string (nxA ((fS4 s sa ep rp).c) ⟨#[]⟩)) <| qV qM 6 71 (.string (nxB ((fS4 s sa ep rp).c) ⟨#[]⟩)) <| qV qM 7 72 (.pointer (some ⟨g2, 0, none⟩)) <| qE qM 8 73 1 0 <| qV qM 9 74 (.agg (av 5 (sQ [ob, fP s sa ep rp, nxA ((fS4 s sa ep rp).c) ⟨#[]⟩, nxB ((fS4 s sa ep rp).c) ⟨#[]⟩, (endF (fS4 s sa ep rp)).h]))) <| qO 10 ?_
    refine ZL M 1 5 (sQ [ob, fP s sa ep rp, nxA ((fS4 s sa ep rp).c) ⟨#[]⟩, nxB ((fS4 s sa ep rp).c) ⟨#[]⟩, (endF (fS4 s sa ep rp)).h]) fun u12 M => nT ?_
    refine ⟨(M.drop (.cons_cons _ (.cons _ (.cons_cons _ (.slnil))))), ?_⟩
    refine qZ ?_
    refine rV 1 <| nT <| au_then <| wp_ret ?_
    have e0 : fiE s sa ep rp = 0 := by simp only [fiE, if_neg c0, if_neg c1, if_pos c2, c2]
    exact bct Tryz.results19 M 1 5 (sQ [ob, fP s sa ep rp, nxA ((fS4 s sa ep rp).c) ⟨#[]⟩, nxB ((fS4 s sa ep rp).c) ⟨#[]⟩, (endF (fS4 s sa ep rp)).h]) (.int .i64 0) ⟨ro_below1 M.old hg (M.get 0 rfl), .inr ⟨e0, rfl⟩⟩
   ·refine wU 62 c2 <| nT <| cT <| sR <| rV 2 <| ZL M 1 5 (zq 5) fun u11 M => rV 1 <| nT <| wp_ret <| au_then_ret ?_
    have e0 : fiE s sa ep rp = (fS4 s sa ep rp).e := by simp only [fiE, if_neg c0, if_neg c1, if_neg c2]
    exact bct Tryz.results19 M 1 5 (zq 5) (.int .i64 (fS4 s sa ep rp).e) ⟨ro_below1 M.old hg (M.get 0 rfl), .inl ⟨by rw [e0]; exact c2, by rw [e0]⟩⟩
end Go.Proofs.YtiahdbibeleakaaGreatDoor
