/- The contract of times: the product, in eight words. -/
import Derived.Test.YtaaijicpdampiaaOrdG
namespace Go.Proofs.Ytaaijicpdampiaa
open Go.RowKit

theorem Q_upd (o : Nat → Int) (k : Nat) (v : Int) : ∀ n, k < n → Q (upd o k v) n = Q o n + (v - o k) * 18446744073709551616 ^ k
  | 0, h => by omega
  | n + 1, h => by
    simp only [Q]
    by_cases e : k = n
    · subst e
      rw [Q_congr (f := upd o k v) (g := o) (n := k) (fun i hi => by unfold upd; rw [if_neg (by omega)]), show upd o k v k = v by unfold upd; rw [if_pos rfl], Int.sub_mul]
      omega
    · rw [Q_upd o k v n (by omega), show upd o k v n = o n by unfold upd; rw [if_neg (by omega)]]
      omega

/-- i rows are in, and of the next one j words; c is carried. -/
structure TI (f g : Nat → Int) (i j : Nat) (o : Nat → Int) (c : Int) : Prop where
  w : Wds o 8
  cw : W64 c
  z : ∀ k, i + 4 ≤ k → k < 8 → o k = 0
  e : Q o 8 + c * 18446744073709551616 ^ (i + j) = Q f i * Q g 4 + f i * Q g j * 18446744073709551616 ^ i

theorem TI.step {f g : Nat → Int} {i j : Nat} {o : Nat → Int} {c : Int} (h : TI f g i j o c) (hf : Wds f 4) (hg : Wds g 4) (hi : i < 4) (hj : j < 4) :
    TI f g i (j + 1) (upd o (i + j) ((f i * g j + o (i + j) + c) % 18446744073709551616)) ((f i * g j + o (i + j) + c) / 18446744073709551616) := by
  have hfi := hf i hi
  have hgj := hg j hj
  have ho := h.w (i + j) (by omega)
  have hc := h.cw
  unfold W64 at hfi hgj ho hc
  have p0 : 0 ≤ f i * g j := Int.mul_nonneg hfi.1 hgj.1
  have p1 : f i * g j ≤ 18446744073709551615 * 18446744073709551615 := Int.mul_le_mul (by omega) (by omega) hgj.1 (by omega)
  refine ⟨fun k hk => ?_, ⟨by omega, by omega⟩, fun k h1 h2 => ?_, ?_⟩
  · unfold upd
    by_cases e : k = i + j
    · rw [if_pos e]; exact ⟨by omega, by omega⟩
    · rw [if_neg e]; exact h.w k hk
  · unfold upd
    rw [if_neg (by omega)]
    exact h.z k h1 h2
  · rw [Q_upd o (i + j) _ 8 (by omega)]
    have he := h.e
    have hp : (18446744073709551616 : Int) ^ (i + (j + 1)) = 18446744073709551616 * 18446744073709551616 ^ (i + j) := p64s (i + j)
    rw [hp]
    have hq : Q g (j + 1) = Q g j + g j * 18446744073709551616 ^ j := rfl
    rw [hq]
    have hx : (18446744073709551616 : Int) ^ (i + j) = 18446744073709551616 ^ i * 18446744073709551616 ^ j := Int.pow_add _ _ _
    have e1 : f i * (Q g j + g j * 18446744073709551616 ^ j) * 18446744073709551616 ^ i = f i * Q g j * 18446744073709551616 ^ i + f i * g j * 18446744073709551616 ^ (i + j) := by
      rw [hx, Int.mul_add, Int.add_mul]
      congr 1
      rw [← Int.mul_assoc, Int.mul_assoc, Int.mul_comm (18446744073709551616 ^ j)]
    rw [e1]
    generalize f i * g j = P at *
    generalize (18446744073709551616 : Int) ^ (i + j) = X at *
    have e2 : (P + o (i + j) + c) % 18446744073709551616 = P + o (i + j) + c - 18446744073709551616 * ((P + o (i + j) + c) / 18446744073709551616) := by omega
    rw [e2]
    generalize (P + o (i + j) + c) / 18446744073709551616 = D
    have e3 : (P + o (i + j) + c - 18446744073709551616 * D - o (i + j)) * X = P * X + c * X - D * (18446744073709551616 * X) := by
      rw [show P + o (i + j) + c - 18446744073709551616 * D - o (i + j) = P + c - 18446744073709551616 * D by omega, Int.sub_mul, Int.add_mul, Int.mul_comm 18446744073709551616 D, Int.mul_assoc]
    rw [e3]
    omega

theorem TI.row {f g : Nat → Int} {i : Nat} {o : Nat → Int} {c : Int} (h : TI f g i 4 o c) (hi : i < 4) : TI f g (i + 1) 0 (upd o (i + 4) c) 0 := by
  refine ⟨fun k hk => ?_, ⟨by decide, by decide⟩, fun k h1 h2 => ?_, ?_⟩
  · unfold upd
    by_cases e : k = i + 4
    · rw [if_pos e]; exact h.cw
    · rw [if_neg e]; exact h.w k hk
  · unfold upd
    rw [if_neg (by omega)]
    exact h.z k (by omega) h2
  · rw [Q_upd o (i + 4) _ 8 (by omega), h.z (i + 4) (by omega) (by omega)]
    have he := h.e
    have hq : Q f (i + 1) = Q f i + f i * 18446744073709551616 ^ i := rfl
    have h0 : Q g 0 = 0 := rfl
    rw [hq, h0, Int.mul_zero, Int.zero_mul, Int.add_mul, Int.sub_zero, Int.mul_assoc (f i), Int.mul_comm (18446744073709551616 ^ i) (Q g 4), ← Int.mul_assoc]
    omega

theorem TI.start (f g : Nat → Int) : TI f g 0 0 (fun _ => 0) 0 := by
  refine ⟨fun k _ => ⟨Int.le_refl 0, (by decide : (0 : Int) < 18446744073709551616)⟩, ⟨by decide, by decide⟩, fun _ _ _ => rfl, ?_⟩
  have h0 : Q f 0 = 0 := rfl
  have h1 : Q g 0 = 0 := rfl
  have h2 : Q (fun _ => 0) 8 = 0 := by decide
  rw [h0, h1, h2]
  simp

theorem TI.done {f g : Nat → Int} {o : Nat → Int} {c : Int} (h : TI f g 4 0 o c) (hc : c = 0) : arr 8 o = arr 8 (d64 (Q f 4 * Q g 4)) := by
  have he := h.e
  have h1 : Q g 0 = 0 := rfl
  rw [hc, h1, Int.zero_mul, Int.mul_zero, Int.zero_mul, Int.add_zero, Int.add_zero] at he
  have hb := Q_bd h.w
  refine arr_congr (Q_inj h.w (d64_wds _ 8) ?_)
  rw [← he, d64_Q _ hb.1, Int.emod_eq_of_lt hb.1 hb.2]

set_option maxRecDepth 100000 in
set_option maxHeartbeats 2000000 in
theorem times_any (f g : Nat → Int) (w : World) (hf : Wds f 4) (hg : Wds g 4) :
    Calls Try.prog 37 #[.agg (arr 4 f), .agg (arr 4 g)] w fun x w' => x = .returned (.agg (arr 8 (d64 (Q f 4 * Q g 4)))) ∧ Below w.heap.size w w' := by
  go_enter Try.func37, Try.ntmps37
  go_wp2
  rw [show #[Value.int IntKind.u64 0, Value.int IntKind.u64 0, Value.int IntKind.u64 0, Value.int IntKind.u64 0, Value.int IntKind.u64 0, Value.int IntKind.u64 0, Value.int IntKind.u64 0, Value.int IntKind.u64 0] = arr 8 (fun _ => 0) from rfl]
  have R1 : Row ((((w.alloc (.cells (arr 4 f) 25)).alloc (.cells (arr 4 g) 25)).alloc (.cells (arr 8 fun _ => 0) 52)).alloc (.cells (arr 8 fun _ => 0) 52)) w.heap.size 25 4 f := (((Row.new w 25 4 f).alloc _).alloc _).alloc _
  have R2 : Row ((((w.alloc (.cells (arr 4 f) 25)).alloc (.cells (arr 4 g) 25)).alloc (.cells (arr 8 fun _ => 0) 52)).alloc (.cells (arr 8 fun _ => 0) 52)) (w.heap.size + 1) 25 4 g := ((Row.new' _ 25 4 _ (by simp)).alloc _).alloc _
  have R3 : Row ((((w.alloc (.cells (arr 4 f) 25)).alloc (.cells (arr 4 g) 25)).alloc (.cells (arr 8 fun _ => 0) 52)).alloc (.cells (arr 8 fun _ => 0) 52)) (w.heap.size + 1 + 1) 52 8 (fun _ => 0) := (Row.new' _ 52 8 _ (by simp)).alloc _
  have R4 : Row ((((w.alloc (.cells (arr 4 f) 25)).alloc (.cells (arr 4 g) 25)).alloc (.cells (arr 8 fun _ => 0) 52)).alloc (.cells (arr 8 fun _ => 0) 52)) (w.heap.size + 1 + 1 + 1) 52 8 (fun _ => 0) := Row.new' _ 52 8 _ (by simp)
  have O : Below w.heap.size w ((((w.alloc (.cells (arr 4 f) 25)).alloc (.cells (arr 4 g) 25)).alloc (.cells (arr 8 fun _ => 0) 52)).alloc (.cells (arr 8 fun _ => 0) 52)) := ((((Below.refl _ _).alloc (Nat.le_refl _) _).alloc (by simp) _).alloc (by simp; omega) _).alloc (by simp; omega) _
  generalize ((((w.alloc (.cells (arr 4 f) 25)).alloc (.cells (arr 4 g) 25)).alloc (.cells (arr 8 fun _ => 0) 52)).alloc (.cells (arr 8 fun _ => 0) 52)) = W at R1 R2 R3 R4 O ⊢
  go_loopw [9] (fun x wr => ∃ i : Nat, i ≤ 4 ∧ x = .int .i64 i ∧ Row wr w.heap.size 25 4 f ∧ Row wr (w.heap.size + 1) 25 4 g ∧ Row wr (w.heap.size + 1 + 1) 52 8 (fun _ => 0) ∧ (∃ o, TI f g i 0 o 0 ∧ Row wr (w.heap.size + 1 + 1 + 1) 52 8 o) ∧ Below w.heap.size w wr) (fun x _ => 4 - (intOf x).toNat)
  case atStart => exact ⟨0, by omega, rfl, R1, R2, R3, ⟨_, TI.start f g, R4⟩, O⟩
  case round =>
    clear R1 R2 R3 R4 O
    obtain ⟨i, hi, rfl, R1, R2, R3, ⟨o, T, R4⟩, O⟩ := hrel
    by_cases hlt : i < 4
    · have HT := hide T
      clear T
      have i2 : (i : Int) < 4 := by omega
      go_wp2
      go_loopw [7, 12] (fun z y wq => ∃ j : Nat, j ≤ 4 ∧ y = .int .i64 j ∧ Row wq w.heap.size 25 4 f ∧ Row wq (w.heap.size + 1) 25 4 g ∧ Row wq (w.heap.size + 1 + 1) 52 8 (fun _ => 0) ∧ (∃ o c, TI f g i j o c ∧ z = .int .u64 c ∧ Row wq (w.heap.size + 1 + 1 + 1) 52 8 o) ∧ Below w.heap.size w wq) (fun _ y _ => 4 - (intOf y).toNat)
      case atStart => exact ⟨0, by omega, rfl, R1, R2, R3, ⟨o, 0, HT.out, rfl, R4⟩, O⟩
      case round =>
        clear R1 R2 R3 R4 O HT
        clear o
        obtain ⟨j, hj, rfl, R1, R2, R3, ⟨o, c, T, rfl, R4⟩, O⟩ := hrel
        by_cases hjl : j < 4
        · have d1 := R1.cell hlt
          have d2 := R2.cell hjl
          have d3 := R4.cell (i := i + j) (by omega)
          have fr := R4.free
          have i1 : (0 : Int) ≤ (i : Int) := by omega
          have j1 : (0 : Int) ≤ (j : Int) := by omega
          have j2 : (j : Int) < 4 := by omega
          have s1 : (0 : Int) ≤ (i : Int) + (j : Int) := by omega
          have s2 : (i : Int) + (j : Int) < 8 := by omega
          have s3 : IntKind.i64.wrap ((i : Int) + (j : Int)) = (i : Int) + (j : Int) := by rw [IntKind.wrap_i64]; omega
          have s4 : ((i : Int) + (j : Int)).toNat = i + j := by omega
          have HP := hide fun w => productAnd_any (f i) (g j) (o (i + j)) c w (hf i hlt) (hg j hjl) (T.w (i + j) (by omega)) T.cw
          have HT := hide (T.step hf hg hlt hjl)
          clear T
          go_wp2_with fail
          go_region_with (go_at_call 43; refine (HP.out _).mono ?_; rintro _ w9 ⟨rfl, rfl⟩)
          all_goals
            go_wp2
            go_roundw
            case rel => first | exact ⟨j + 1, by omega, by go_num, rowD (R1.other (a := ⟨w.heap.size + 1 + 1 + 1, i + j, none⟩) (by simp <;> omega) _), rowD (R2.other (a := ⟨w.heap.size + 1 + 1 + 1, i + j, none⟩) (by simp <;> omega) _), rowD (R3.other (a := ⟨w.heap.size + 1 + 1 + 1, i + j, none⟩) (by simp) _), ⟨_, _, HT.out, rfl, rowD (R4.set (i + j) _)⟩, (O.setCell (p := ⟨w.heap.size + 1 + 1 + 1, i + j, none⟩) (by simp <;> omega) _).drew⟩ | exact ⟨_, _, _, _, _, _, _, _, _, _, _, _, _, _, _, _, _, _, _, _, _, _, _, _, _, _, ⟨j + 1, by omega, by go_num, rowD (R1.other (a := ⟨w.heap.size + 1 + 1 + 1, i + j, none⟩) (by simp <;> omega) _), rowD (R2.other (a := ⟨w.heap.size + 1 + 1 + 1, i + j, none⟩) (by simp <;> omega) _), rowD (R3.other (a := ⟨w.heap.size + 1 + 1 + 1, i + j, none⟩) (by simp) _), ⟨_, _, HT.out, rfl, rowD (R4.set (i + j) _)⟩, (O.setCell (p := ⟨w.heap.size + 1 + 1 + 1, i + j, none⟩) (by simp <;> omega) _).drew⟩, rfl⟩
            case measure => simp [intOf]; omega
        · have hj' : j = 4 := by omega
          subst hj'
          have HT := hide (T.row hlt)
          have d3 := R4.cell (i := i + 4) (by omega)
          have fr := R4.free
          have i1 : (0 : Int) ≤ (i : Int) := by omega
          have R1' := hide (R1.other (a := ⟨w.heap.size + 1 + 1 + 1, i + 4, none⟩) (by simp <;> omega) (.int .u64 c))
          have R2' := hide (R2.other (a := ⟨w.heap.size + 1 + 1 + 1, i + 4, none⟩) (by simp <;> omega) (.int .u64 c))
          have R3' := hide (R3.other (a := ⟨w.heap.size + 1 + 1 + 1, i + 4, none⟩) (by simp) (.int .u64 c))
          have R4' := hide (R4.set (i + 4) c)
          have O' := hide (O.setCell (p := ⟨w.heap.size + 1 + 1 + 1, i + 4, none⟩) (by simp <;> omega) (.int .u64 c))
          clear R1 R2 R3 R4 O T
          go_wp2
          exact ⟨⟨i + 1, by omega, by go_num, R1'.out, R2'.out, R3'.out, ⟨_, HT.out, R4'.out⟩, O'.out⟩, by simp [intOf]; omega⟩
    · have hi' : i = 4 := by omega
      subst hi'
      have HE := hide (T.done rfl)
      have RR := hide (R3.setAll o)
      have OO := hide (below_setCells (g := w.heap.size + 1 + 1) (by omega) (arr 8 o).toList 0 O)
      have HX := hide R4
      clear R4 O R1 R2 T
      go_wp2_with (first | (refine wpList_load_row rfl 52 _ rfl (w.heap.size + 1 + 1 + 1) rfl 52 (arr 8 o) (0, 0) _ HX.out Try.underlying52 rfl (info52 _) ?_) | (refine wpList_store_mid rfl 52 _ _ rfl (w.heap.size + 1 + 1) 0 (arr 8 o) rfl rfl ?tht (info52 _) (arr_one _ _) ?_))
      case tht => rw [arr_size]; exact R3.there
      exact bodyPost_ret (v := .agg (arr 8 o)) (results_cell_row Try.results37 _ _ (w.heap.size + 1 + 1) 52 (arr 8 o) (0, 0) _ rfl RR.out Try.underlying52 rfl (info52 _)) rfl ⟨by rw [HE.out], OO.out⟩

end Go.Proofs.Ytaaijicpdampiaa
