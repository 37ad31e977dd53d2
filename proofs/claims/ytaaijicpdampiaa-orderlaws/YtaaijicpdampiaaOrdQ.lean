/- The contracts of the document's Add and Mul of scalars. -/
import Derived.Test.YtaaijicpdampiaaOrdP
import Derived.Test.YtaaijicpdampiaaRmulA
namespace Go.Proofs.Ytaaijicpdampiaa
open Go.RowKit

/-- The sums of the first k digits. -/
def sd (a b : Nat → Int) (k : Nat) : Nat → Int := fun i => if i < k then a i + b i else 0

theorem sd_next (a b : Nat → Int) (k i : Nat) : upd (sd a b k) k (a k + b k) i = sd a b (k + 1) i := by
  unfold upd sd
  by_cases h : i = k
  · subst h
    rw [if_pos rfl, if_pos (by omega)]
  · rw [if_neg h]
    by_cases h2 : i < k
    · rw [if_pos h2, if_pos (by omega)]
    · rw [if_neg h2, if_neg (by omega)]

theorem sd_S (a b : Nat → Int) : S (sd a b 16) 32 = S a 16 + S b 16 := by
  rw [S_upper_zero _ (fun i h _ => by unfold sd; rw [if_neg (by omega)]), S_congr (g := fun i => a i + b i) (fun i h => by unfold sd; rw [if_pos h]), S_add']

theorem sd_48 {a b : Nat → Int} (ha : Dig a 16) (hb : Dig b 16) : B48 (sd a b 16) := ⟨fun i _ => by
  unfold sd
  by_cases h : i < 16
  · rw [if_pos h]
    have := ha i h
    have := hb i h
    omega
  · rw [if_neg h]
    omega⟩

theorem lo_all {t : Nat → Int} (h0 : 0 ≤ S t 32) (h1 : S t 32 < 65536 ^ 32) : S (lo t) 32 = S t 32 := by
  have e := pass_S t 32
  have hb := S_bd (lo_dig t 32)
  generalize (65536 : Int) ^ 32 = X at *
  have hc : cf t 32 = 0 := by
    by_cases hz : cf t 32 = 0
    · exact hz
    · exfalso
      by_cases hp : 1 ≤ cf t 32
      · have : 1 * X ≤ cf t 32 * X := Int.mul_le_mul_of_nonneg_right hp (by omega)
        omega
      · have : cf t 32 * X ≤ (-1) * X := Int.mul_le_mul_of_nonneg_right (by omega) (by omega)
        omega
  rw [hc] at e
  omega

theorem bty_size (u : Nat → Int) : (bs (rc u 32)).size = 64 := by rw [bs_size, rc_len]

/-- What Of makes of the bytes of parts. -/
theorem rof_parts (t : Nat → Int) (w : World) (h0 : 0 ≤ S t 32) (h1 : S t 32 < 65536 ^ 32) :
    Calls Try.prog 14 #[.string (bs (rc (lo t) 32))] w fun x w' => x = .returned (.agg (arr 16 (d16 (S t 32 % Lm)))) ∧ Below w.heap.size w w' := by
  have h := rof_any (bs (rc (lo t) 32)) 512 w (by rw [bty_size]; omega) (by rw [bty_size])
  rwa [ov_all _ 64 512 rfl, show 64 = 2 * 32 from rfl, rc_bv (lo_dig t 32) 32 (by omega), lo_all h0 h1] at h

theorem two16 : (2 : Int) * 65536 ^ 16 < 65536 ^ 32 := by decide
theorem S16_bd {a : Nat → Int} (ha : Dig a 16) : 0 ≤ S a 16 ∧ S a 16 < 65536 ^ 16 := S_bd ha

set_option maxRecDepth 100000 in
set_option maxHeartbeats 1000000 in
theorem radd_any (a b : Nat → Int) (w : World) (ha : Dig a 16) (hb : Dig b 16) :
    Calls Try.prog 17 #[.agg (arr 16 a), .agg (arr 16 b)] w fun r w' => r = .returned (.agg (arr 16 (d16 ((S a 16 + S b 16) % Lm)))) ∧ Below w.heap.size w w' := by
  go_enter Try.func17, Try.ntmps17
  go_wp2
  rw [show #[Value.int IntKind.u64 0, Value.int IntKind.u64 0, Value.int IntKind.u64 0, Value.int IntKind.u64 0, Value.int IntKind.u64 0, Value.int IntKind.u64 0, Value.int IntKind.u64 0, Value.int IntKind.u64 0, Value.int IntKind.u64 0, Value.int IntKind.u64 0, Value.int IntKind.u64 0, Value.int IntKind.u64 0, Value.int IntKind.u64 0, Value.int IntKind.u64 0, Value.int IntKind.u64 0, Value.int IntKind.u64 0] = arr 16 (fun _ => 0) from rfl, show #[Value.int IntKind.u64 0, Value.int IntKind.u64 0, Value.int IntKind.u64 0, Value.int IntKind.u64 0, Value.int IntKind.u64 0, Value.int IntKind.u64 0, Value.int IntKind.u64 0, Value.int IntKind.u64 0, Value.int IntKind.u64 0, Value.int IntKind.u64 0, Value.int IntKind.u64 0, Value.int IntKind.u64 0, Value.int IntKind.u64 0, Value.int IntKind.u64 0, Value.int IntKind.u64 0, Value.int IntKind.u64 0, Value.int IntKind.u64 0, Value.int IntKind.u64 0, Value.int IntKind.u64 0, Value.int IntKind.u64 0, Value.int IntKind.u64 0, Value.int IntKind.u64 0, Value.int IntKind.u64 0, Value.int IntKind.u64 0, Value.int IntKind.u64 0, Value.int IntKind.u64 0, Value.int IntKind.u64 0, Value.int IntKind.u64 0, Value.int IntKind.u64 0, Value.int IntKind.u64 0, Value.int IntKind.u64 0, Value.int IntKind.u64 0] = arr 32 (fun _ => 0) from rfl]
  have R1 : Row ((((w.alloc (.cells (arr 16 a) 38)).alloc (.cells (arr 16 b) 38)).alloc (.cells (arr 16 fun _ => 0) 38)).alloc (.cells (arr 32 fun _ => 0) 61)) w.heap.size 38 16 a := (((Row.new w 38 16 a).alloc _).alloc _).alloc _
  have R2 : Row ((((w.alloc (.cells (arr 16 a) 38)).alloc (.cells (arr 16 b) 38)).alloc (.cells (arr 16 fun _ => 0) 38)).alloc (.cells (arr 32 fun _ => 0) 61)) (w.heap.size + 1) 38 16 b := ((Row.new' _ 38 16 _ (by simp)).alloc _).alloc _
  have R3 : Row ((((w.alloc (.cells (arr 16 a) 38)).alloc (.cells (arr 16 b) 38)).alloc (.cells (arr 16 fun _ => 0) 38)).alloc (.cells (arr 32 fun _ => 0) 61)) (w.heap.size + 1 + 1) 38 16 (fun _ => 0) := (Row.new' _ 38 16 _ (by simp)).alloc _
  have R4 : Row ((((w.alloc (.cells (arr 16 a) 38)).alloc (.cells (arr 16 b) 38)).alloc (.cells (arr 16 fun _ => 0) 38)).alloc (.cells (arr 32 fun _ => 0) 61)) (w.heap.size + 1 + 1 + 1) 61 32 (fun _ => 0) := Row.new' _ 61 32 _ (by simp)
  have O : Below w.heap.size w ((((w.alloc (.cells (arr 16 a) 38)).alloc (.cells (arr 16 b) 38)).alloc (.cells (arr 16 fun _ => 0) 38)).alloc (.cells (arr 32 fun _ => 0) 61)) := ((((Below.refl _ _).alloc (Nat.le_refl _) _).alloc (by simp) _).alloc (by simp; omega) _).alloc (by simp; omega) _
  generalize ((((w.alloc (.cells (arr 16 a) 38)).alloc (.cells (arr 16 b) 38)).alloc (.cells (arr 16 fun _ => 0) 38)).alloc (.cells (arr 32 fun _ => 0) 61)) = W at R1 R2 R3 R4 O ⊢
  go_loopw [6] (fun x wr => ∃ i : Nat, i ≤ 16 ∧ x = .int .i64 i ∧ Row wr w.heap.size 38 16 a ∧ Row wr (w.heap.size + 1) 38 16 b ∧ Row wr (w.heap.size + 1 + 1) 38 16 (fun _ => 0) ∧ Row wr (w.heap.size + 1 + 1 + 1) 61 32 (sd a b i) ∧ Below w.heap.size w wr) (fun x _ => 16 - (intOf x).toNat)
  case atStart => exact ⟨0, by omega, rfl, R1, R2, R3, R4.congr (fun i _ => by unfold sd; rw [if_neg (by omega)]), O⟩
  case round =>
    clear R1 R2 R3 R4 O
    obtain ⟨i, hi, rfl, R1, R2, R3, R4, O⟩ := hrel
    by_cases hlt : i < 16
    · have c := R1.cell hlt
      have d := R2.cell hlt
      have e := R4.cell (i := i) (by omega)
      have f := R4.free
      obtain ⟨a0, a1⟩ := ha i hlt
      obtain ⟨b0, b1⟩ := hb i hlt
      have i1 : (0 : Int) ≤ (i : Int) := by omega
      have i2 : (i : Int) < 16 := by omega
      go_wp2_with fail
      go_region
      go_wp2
      exact ⟨⟨i + 1, by omega, by go_num, rowD (R1.other (a := ⟨w.heap.size + 1 + 1 + 1, i, none⟩) (by simp <;> omega) _), rowD (R2.other (a := ⟨w.heap.size + 1 + 1 + 1, i, none⟩) (by simp <;> omega) _), rowD (R3.other (a := ⟨w.heap.size + 1 + 1 + 1, i, none⟩) (by simp) _), rowD ((R4.set i (a i + b i)).congr (fun j _ => sd_next a b i j)), (O.setCell (p := ⟨w.heap.size + 1 + 1 + 1, i, none⟩) (by simp <;> omega) _).drew⟩, by simp [intOf]; omega⟩
    · have hi' : i = 16 := by omega
      subst hi'
      have HR := hide R4
      have HO := hide (fun w => rof_parts (sd a b 16) w (by rw [sd_S]; have := S_bd ha; have := S_bd hb; omega) (by rw [sd_S]; have := S_bd ha; have := S_bd hb; have h := two16; omega))
      clear R4 R1 R2
      go_wp2_with (refine wpList_load_row rfl 61 _ rfl (w.heap.size + 1 + 1 + 1) rfl 61 (arr 32 (sd a b 16)) (0, 0) _ HR.out Try.underlying61 rfl (info61 _) ?_)
      try rw [show ∀ (a : Act) (v : Value), a.put none v = a from fun _ _ => rfl]
      refine (rby_any (sd a b 16) _ (sd_48 ha hb)).mono ?_
      rintro _ w3 ⟨rfl, hb3⟩
      replace R3 := R3.keep hb3
      replace O := O.trans (hb3.mono O.size)
      clear hb3 HR
      go_wp2_with fail
      refine (HO.out _).mono ?_
      rintro _ w4 ⟨rfl, hb3⟩
      replace R3 := R3.keep hb3
      replace O := O.trans (hb3.mono O.size)
      clear hb3 HO
      rw [sd_S]
      have RR := hide (R3.setAll (d16 ((S a 16 + S b 16) % Lm)))
      have OO := hide (below_setCells (g := w.heap.size + 1 + 1) (by omega) (arr 16 (d16 ((S a 16 + S b 16) % Lm))).toList 0 O)
      go_wp2_with (refine wpList_store_mid rfl 38 _ _ rfl (w.heap.size + 1 + 1) 0 (arr 16 (d16 ((S a 16 + S b 16) % Lm))) rfl rfl (by rw [arr_size]; exact R3.there) (info38 _) (arr_one _ _) ?_)
      exact bodyPost_ret (v := .agg (arr 16 (d16 ((S a 16 + S b 16) % Lm)))) (results_cell_row Try.results17 _ _ (w.heap.size + 1 + 1) 38 (arr 16 (d16 ((S a 16 + S b 16) % Lm))) (0, 0) _ rfl RR.out Try.underlying38 rfl (info38 _)) rfl ⟨rfl, OO.out⟩

set_option maxRecDepth 100000 in
set_option maxHeartbeats 1000000 in
theorem rmul_any (a b : Nat → Int) (w : World) (ha : Dig a 16) (hb : Dig b 16) :
    Calls Try.prog 19 #[.agg (arr 16 a), .agg (arr 16 b)] w fun r w' => r = .returned (.agg (arr 16 (d16 ((S a 16 * S b 16) % Lm)))) ∧ Below w.heap.size w w' := by
  have HO := hide (fun w => rof_parts (mp a b 16) w (by rw [mp_S a b 16 (by omega)]; exact Int.mul_nonneg (S_bd ha).1 (S_bd hb).1) (by
    rw [mp_S a b 16 (by omega)]
    have h1 := S_bd ha
    have h2 := S_bd hb
    have h3 : S a 16 * S b 16 ≤ (65536 ^ 16 - 1) * (65536 ^ 16 - 1) := Int.mul_le_mul (by omega) (by omega) h2.1 (by decide)
    have h4 : ((65536 : Int) ^ 16 - 1) * (65536 ^ 16 - 1) < 65536 ^ 32 := by decide
    omega))
  go_enter Try.func19, Try.ntmps19
  go_wp2
  rw [show #[Value.int IntKind.u64 0, Value.int IntKind.u64 0, Value.int IntKind.u64 0, Value.int IntKind.u64 0, Value.int IntKind.u64 0, Value.int IntKind.u64 0, Value.int IntKind.u64 0, Value.int IntKind.u64 0, Value.int IntKind.u64 0, Value.int IntKind.u64 0, Value.int IntKind.u64 0, Value.int IntKind.u64 0, Value.int IntKind.u64 0, Value.int IntKind.u64 0, Value.int IntKind.u64 0, Value.int IntKind.u64 0] = arr 16 (fun _ => 0) from rfl, show #[Value.int IntKind.u64 0, Value.int IntKind.u64 0, Value.int IntKind.u64 0, Value.int IntKind.u64 0, Value.int IntKind.u64 0, Value.int IntKind.u64 0, Value.int IntKind.u64 0, Value.int IntKind.u64 0, Value.int IntKind.u64 0, Value.int IntKind.u64 0, Value.int IntKind.u64 0, Value.int IntKind.u64 0, Value.int IntKind.u64 0, Value.int IntKind.u64 0, Value.int IntKind.u64 0, Value.int IntKind.u64 0, Value.int IntKind.u64 0, Value.int IntKind.u64 0, Value.int IntKind.u64 0, Value.int IntKind.u64 0, Value.int IntKind.u64 0, Value.int IntKind.u64 0, Value.int IntKind.u64 0, Value.int IntKind.u64 0, Value.int IntKind.u64 0, Value.int IntKind.u64 0, Value.int IntKind.u64 0, Value.int IntKind.u64 0, Value.int IntKind.u64 0, Value.int IntKind.u64 0, Value.int IntKind.u64 0, Value.int IntKind.u64 0] = arr 32 (fun _ => 0) from rfl]
  have R1 : Row ((((w.alloc (.cells (arr 16 a) 38)).alloc (.cells (arr 16 b) 38)).alloc (.cells (arr 16 fun _ => 0) 38)).alloc (.cells (arr 32 fun _ => 0) 61)) w.heap.size 38 16 a := (((Row.new w 38 16 a).alloc _).alloc _).alloc _
  have R2 : Row ((((w.alloc (.cells (arr 16 a) 38)).alloc (.cells (arr 16 b) 38)).alloc (.cells (arr 16 fun _ => 0) 38)).alloc (.cells (arr 32 fun _ => 0) 61)) (w.heap.size + 1) 38 16 b := ((Row.new' _ 38 16 _ (by simp)).alloc _).alloc _
  have R3 : Row ((((w.alloc (.cells (arr 16 a) 38)).alloc (.cells (arr 16 b) 38)).alloc (.cells (arr 16 fun _ => 0) 38)).alloc (.cells (arr 32 fun _ => 0) 61)) (w.heap.size + 1 + 1) 38 16 (fun _ => 0) := (Row.new' _ 38 16 _ (by simp)).alloc _
  have R4 : Row ((((w.alloc (.cells (arr 16 a) 38)).alloc (.cells (arr 16 b) 38)).alloc (.cells (arr 16 fun _ => 0) 38)).alloc (.cells (arr 32 fun _ => 0) 61)) (w.heap.size + 1 + 1 + 1) 61 32 (fun _ => 0) := Row.new' _ 61 32 _ (by simp)
  have O : Below w.heap.size w ((((w.alloc (.cells (arr 16 a) 38)).alloc (.cells (arr 16 b) 38)).alloc (.cells (arr 16 fun _ => 0) 38)).alloc (.cells (arr 32 fun _ => 0) 61)) := ((((Below.refl _ _).alloc (Nat.le_refl _) _).alloc (by simp) _).alloc (by simp; omega) _).alloc (by simp; omega) _
  generalize ((((w.alloc (.cells (arr 16 a) 38)).alloc (.cells (arr 16 b) 38)).alloc (.cells (arr 16 fun _ => 0) 38)).alloc (.cells (arr 32 fun _ => 0) 61)) = W at R1 R2 R3 R4 O ⊢
  go_loopw [6] (fun x wr => ∃ i : Nat, i ≤ 16 ∧ x = .int .i64 i ∧ Row wr w.heap.size 38 16 a ∧ Row wr (w.heap.size + 1) 38 16 b ∧ Row wr (w.heap.size + 1 + 1) 38 16 (fun _ => 0) ∧ Row wr (w.heap.size + 1 + 1 + 1) 61 32 (mp a b i) ∧ Below w.heap.size w wr) (fun x _ => 16 - (intOf x).toNat)
  case atStart => exact ⟨0, by omega, rfl, R1, R2, R3, R4, O⟩
  case round =>
    clear R1 R2 R3 R4 O
    obtain ⟨i, hi, rfl, R1, R2, R3, R4, O⟩ := hrel
    by_cases hlt : i < 16
    · go_wp2
      go_loopw [7] (fun y wq => ∃ k : Nat, k ≤ 16 ∧ y = .int .i64 k ∧ Row wq w.heap.size 38 16 a ∧ Row wq (w.heap.size + 1) 38 16 b ∧ Row wq (w.heap.size + 1 + 1) 38 16 (fun _ => 0) ∧ Row wq (w.heap.size + 1 + 1 + 1) 61 32 (mq a b i k) ∧ Below w.heap.size w wq) (fun y _ => 16 - (intOf y).toNat)
      case atStart => exact ⟨0, by omega, rfl, R1, R2, R3, R4.congr (fun j _ => (mq_zero a b i j).symm), O⟩
      case round =>
        clear R1 R2 R3 R4 O
        obtain ⟨k, hk, rfl, R1, R2, R3, R4, O⟩ := hrel
        by_cases hkl : k < 16
        · have c := R1.cell hlt
          have d := R2.cell hkl
          have e := R4.cell (i := i + k) (by omega)
          rw [mq_at] at e
          have f := R4.free
          have hp := dmul (ha i hlt) (hb k hkl)
          have hm := mp_bd ha hb (i + k) i hi
          have i1 : (0 : Int) ≤ (i : Int) := by omega
          have i2 : (i : Int) < 16 := by omega
          have k1 : (0 : Int) ≤ (k : Int) := by omega
          have k2 : (k : Int) < 16 := by omega
          obtain ⟨p0, p1⟩ := hp
          obtain ⟨m0, m1⟩ := hm
          have m2 : mp a b i (i + k) < 100000000000 := by omega
          clear m1
          go_wp2_with fail
          go_region
          go_wp2
          exact ⟨⟨k + 1, by omega, by go_num, rowD (R1.other (a := ⟨w.heap.size + 1 + 1 + 1, i + k, none⟩) (by simp <;> omega) _), rowD (R2.other (a := ⟨w.heap.size + 1 + 1 + 1, i + k, none⟩) (by simp <;> omega) _), rowD (R3.other (a := ⟨w.heap.size + 1 + 1 + 1, i + k, none⟩) (by simp) _), rowD ((R4.set (i + k) (mp a b i (i + k) + a i * b k)).congr (fun j _ => mq_next a b i k j)), (O.setCell (p := ⟨w.heap.size + 1 + 1 + 1, i + k, none⟩) (by simp <;> omega) _).drew⟩, by simp [intOf]; omega⟩
        · have hk' : k = 16 := by omega
          subst hk'
          go_wp2
          exact ⟨⟨i + 1, by omega, by go_num, R1, R2, R3, R4, O⟩, by simp [intOf]; omega⟩
    · have hi' : i = 16 := by omega
      subst hi'
      have HR := hide R4
      clear R4 R1 R2
      go_wp2_with (refine wpList_load_row rfl 61 _ rfl (w.heap.size + 1 + 1 + 1) rfl 61 (arr 32 (mp a b 16)) (0, 0) _ HR.out Try.underlying61 rfl (info61 _) ?_)
      try rw [show ∀ (a : Act) (v : Value), a.put none v = a from fun _ _ => rfl]
      refine (rby_any (mp a b 16) _ (mp_48 ha hb)).mono ?_
      rintro _ w3 ⟨rfl, hb3⟩
      replace R3 := R3.keep hb3
      replace O := O.trans (hb3.mono O.size)
      clear hb3 HR
      go_wp2_with fail
      refine (HO.out _).mono ?_
      rintro _ w4 ⟨rfl, hb3⟩
      replace R3 := R3.keep hb3
      replace O := O.trans (hb3.mono O.size)
      clear hb3 HO
      rw [mp_S a b 16 (by omega)]
      have RR := hide (R3.setAll (d16 ((S a 16 * S b 16) % Lm)))
      have OO := hide (below_setCells (g := w.heap.size + 1 + 1) (by omega) (arr 16 (d16 ((S a 16 * S b 16) % Lm))).toList 0 O)
      go_wp2_with (refine wpList_store_mid rfl 38 _ _ rfl (w.heap.size + 1 + 1) 0 (arr 16 (d16 ((S a 16 * S b 16) % Lm))) rfl rfl (by rw [arr_size]; exact R3.there) (info38 _) (arr_one _ _) ?_)
      exact bodyPost_ret (v := .agg (arr 16 (d16 ((S a 16 * S b 16) % Lm)))) (results_cell_row Try.results19 _ _ (w.heap.size + 1 + 1) 38 (arr 16 (d16 ((S a 16 * S b 16) % Lm))) (0, 0) _ rfl RR.out Try.underlying38 rfl (info38 _)) rfl ⟨rfl, OO.out⟩

end Go.Proofs.Ytaaijicpdampiaa
