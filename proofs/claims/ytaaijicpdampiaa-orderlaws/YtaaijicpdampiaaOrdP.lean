/- The contract of the document's bytes: the 64 bytes of parts of any size. -/
import Derived.Test.YtaaijicpdampiaaOrdO
namespace Go.Proofs.Ytaaijicpdampiaa
open Go.RowKit

/-- Of 64 bytes those of the first k digits. -/
def rc (u : Nat → Int) (k : Nat) : List Int := (List.range 64).map fun i => if i < 2 * k then by16 u i else 0

theorem rc_len (u : Nat → Int) (k : Nat) : (rc u k).length = 64 := by simp [rc]
theorem rc_set (u : Nat → Int) (k : Nat) : ((rc u k).set (2 * k) (by16 u (2 * k))).set (2 * k + 1) (by16 u (2 * k + 1)) = rc u (k + 1) := by
  apply List.ext_getElem?
  intro i
  by_cases hi : i < 64
  · by_cases h : 2 * k + 1 = i
    · subst h
      rw [List.getElem?_set_self (by rw [List.length_set, rc_len]; exact hi)]
      simp only [rc, List.getElem?_map, List.getElem?_range hi, Option.map_some]
      rw [if_pos (by omega)]
    · rw [List.getElem?_set_ne h]
      by_cases h1 : 2 * k = i
      · subst h1
        rw [List.getElem?_set_self (by rw [rc_len]; exact hi)]
        simp only [rc, List.getElem?_map, List.getElem?_range hi, Option.map_some]
        rw [if_pos (by omega)]
      · rw [List.getElem?_set_ne h1]
        simp only [rc, List.getElem?_map, List.getElem?_range hi, Option.map_some]
        congr 1
        by_cases h2 : i < 2 * k
        · rw [if_pos h2, if_pos (by omega)]
        · rw [if_neg h2, if_neg (by omega)]
  · rw [List.getElem?_eq_none (by simp [rc]; omega), List.getElem?_eq_none (by simp [rc]; omega)]

theorem by16_lo (u : Nat → Int) (k : Nat) : by16 u (2 * k) = u k % 256 := by
  unfold by16
  rw [show 2 * k / 2 = k by omega, show 2 * k % 2 = 0 by omega]
  simp
theorem by16_hi (u : Nat → Int) (k : Nat) : by16 u (2 * k + 1) = u k / 256 % 256 := by
  unfold by16
  rw [show (2 * k + 1) / 2 = k by omega, show (2 * k + 1) % 2 = 1 by omega]
  simp

theorem rc_bt (u : Nat → Int) {i : Nat} (h : i < 64) : bt (bs (rc u 32)) i = by16 u i := by
  refine bt_bs _ _ _ ?_ (by unfold by16; omega) (by unfold by16; omega)
  simp only [rc, List.getElem?_map, List.getElem?_range h, Option.map_some]
  rw [if_pos (by omega)]

theorem rc_bv {u : Nat → Int} (hu : Dig u 32) : ∀ n, n ≤ 32 → bv (bs (rc u 32)) (2 * n) = S u n
  | 0, _ => rfl
  | n + 1, h => by
    have ih := rc_bv hu n (by omega)
    have hd := hu n (by omega)
    show bv (bs (rc u 32)) (2 * n) + bt (bs (rc u 32)) (2 * n) * 256 ^ (2 * n) + bt (bs (rc u 32)) (2 * n + 1) * 256 ^ (2 * n + 1) = _
    have e : (256 : Int) ^ (2 * n) = 65536 ^ n := by rw [Int.pow_mul]; rfl
    rw [rc_bt u (by omega), rc_bt u (by omega), by16_lo, by16_hi, ih, p8s, e]
    simp only [S]
    generalize (65536 : Int) ^ n = X
    rw [← Int.mul_assoc, Int.add_assoc, ← Int.add_mul]
    congr 2
    omega

set_option maxRecDepth 100000 in
set_option maxHeartbeats 2000000 in
theorem rby_any (t : Nat → Int) (w : World) (ht : B48 t) :
    Calls Try.prog 36 #[.agg (arr 32 t)] w fun r w' => r = .returned (.string (bs (rc (lo t) 32))) ∧ Below w.heap.size w w' := by
  have hmk : ∀ w, (Instr.makeSlice 48 (.int .i64 64) (.int .i64 64)).run Try.prog w = .ok (.slice (some ⟨w.heap.size, 0, none⟩) 64 64) (w.alloc (.cells #[Value.int IntKind.u8 0, Value.int IntKind.u8 0, Value.int IntKind.u8 0, Value.int IntKind.u8 0, Value.int IntKind.u8 0, Value.int IntKind.u8 0, Value.int IntKind.u8 0, Value.int IntKind.u8 0, Value.int IntKind.u8 0, Value.int IntKind.u8 0, Value.int IntKind.u8 0, Value.int IntKind.u8 0, Value.int IntKind.u8 0, Value.int IntKind.u8 0, Value.int IntKind.u8 0, Value.int IntKind.u8 0, Value.int IntKind.u8 0, Value.int IntKind.u8 0, Value.int IntKind.u8 0, Value.int IntKind.u8 0, Value.int IntKind.u8 0, Value.int IntKind.u8 0, Value.int IntKind.u8 0, Value.int IntKind.u8 0, Value.int IntKind.u8 0, Value.int IntKind.u8 0, Value.int IntKind.u8 0, Value.int IntKind.u8 0, Value.int IntKind.u8 0, Value.int IntKind.u8 0, Value.int IntKind.u8 0, Value.int IntKind.u8 0, Value.int IntKind.u8 0, Value.int IntKind.u8 0, Value.int IntKind.u8 0, Value.int IntKind.u8 0, Value.int IntKind.u8 0, Value.int IntKind.u8 0, Value.int IntKind.u8 0, Value.int IntKind.u8 0, Value.int IntKind.u8 0, Value.int IntKind.u8 0, Value.int IntKind.u8 0, Value.int IntKind.u8 0, Value.int IntKind.u8 0, Value.int IntKind.u8 0, Value.int IntKind.u8 0, Value.int IntKind.u8 0, Value.int IntKind.u8 0, Value.int IntKind.u8 0, Value.int IntKind.u8 0, Value.int IntKind.u8 0, Value.int IntKind.u8 0, Value.int IntKind.u8 0, Value.int IntKind.u8 0, Value.int IntKind.u8 0, Value.int IntKind.u8 0, Value.int IntKind.u8 0, Value.int IntKind.u8 0, Value.int IntKind.u8 0, Value.int IntKind.u8 0, Value.int IntKind.u8 0, Value.int IntKind.u8 0, Value.int IntKind.u8 0] 5)) := fun _ => by kernel_rfl
  go_enter Try.func36, Try.ntmps36
  go_wp2
  clear hmk
  have R1 : Row ((w.alloc (.cells (arr 32 t) 61)).alloc (.cells #[Value.int IntKind.u8 0, Value.int IntKind.u8 0, Value.int IntKind.u8 0, Value.int IntKind.u8 0, Value.int IntKind.u8 0, Value.int IntKind.u8 0, Value.int IntKind.u8 0, Value.int IntKind.u8 0, Value.int IntKind.u8 0, Value.int IntKind.u8 0, Value.int IntKind.u8 0, Value.int IntKind.u8 0, Value.int IntKind.u8 0, Value.int IntKind.u8 0, Value.int IntKind.u8 0, Value.int IntKind.u8 0, Value.int IntKind.u8 0, Value.int IntKind.u8 0, Value.int IntKind.u8 0, Value.int IntKind.u8 0, Value.int IntKind.u8 0, Value.int IntKind.u8 0, Value.int IntKind.u8 0, Value.int IntKind.u8 0, Value.int IntKind.u8 0, Value.int IntKind.u8 0, Value.int IntKind.u8 0, Value.int IntKind.u8 0, Value.int IntKind.u8 0, Value.int IntKind.u8 0, Value.int IntKind.u8 0, Value.int IntKind.u8 0, Value.int IntKind.u8 0, Value.int IntKind.u8 0, Value.int IntKind.u8 0, Value.int IntKind.u8 0, Value.int IntKind.u8 0, Value.int IntKind.u8 0, Value.int IntKind.u8 0, Value.int IntKind.u8 0, Value.int IntKind.u8 0, Value.int IntKind.u8 0, Value.int IntKind.u8 0, Value.int IntKind.u8 0, Value.int IntKind.u8 0, Value.int IntKind.u8 0, Value.int IntKind.u8 0, Value.int IntKind.u8 0, Value.int IntKind.u8 0, Value.int IntKind.u8 0, Value.int IntKind.u8 0, Value.int IntKind.u8 0, Value.int IntKind.u8 0, Value.int IntKind.u8 0, Value.int IntKind.u8 0, Value.int IntKind.u8 0, Value.int IntKind.u8 0, Value.int IntKind.u8 0, Value.int IntKind.u8 0, Value.int IntKind.u8 0, Value.int IntKind.u8 0, Value.int IntKind.u8 0, Value.int IntKind.u8 0, Value.int IntKind.u8 0] 5)) w.heap.size 61 32 t := (Row.new w 61 32 t).alloc _
  have R2 : Byt ((w.alloc (.cells (arr 32 t) 61)).alloc (.cells #[Value.int IntKind.u8 0, Value.int IntKind.u8 0, Value.int IntKind.u8 0, Value.int IntKind.u8 0, Value.int IntKind.u8 0, Value.int IntKind.u8 0, Value.int IntKind.u8 0, Value.int IntKind.u8 0, Value.int IntKind.u8 0, Value.int IntKind.u8 0, Value.int IntKind.u8 0, Value.int IntKind.u8 0, Value.int IntKind.u8 0, Value.int IntKind.u8 0, Value.int IntKind.u8 0, Value.int IntKind.u8 0, Value.int IntKind.u8 0, Value.int IntKind.u8 0, Value.int IntKind.u8 0, Value.int IntKind.u8 0, Value.int IntKind.u8 0, Value.int IntKind.u8 0, Value.int IntKind.u8 0, Value.int IntKind.u8 0, Value.int IntKind.u8 0, Value.int IntKind.u8 0, Value.int IntKind.u8 0, Value.int IntKind.u8 0, Value.int IntKind.u8 0, Value.int IntKind.u8 0, Value.int IntKind.u8 0, Value.int IntKind.u8 0, Value.int IntKind.u8 0, Value.int IntKind.u8 0, Value.int IntKind.u8 0, Value.int IntKind.u8 0, Value.int IntKind.u8 0, Value.int IntKind.u8 0, Value.int IntKind.u8 0, Value.int IntKind.u8 0, Value.int IntKind.u8 0, Value.int IntKind.u8 0, Value.int IntKind.u8 0, Value.int IntKind.u8 0, Value.int IntKind.u8 0, Value.int IntKind.u8 0, Value.int IntKind.u8 0, Value.int IntKind.u8 0, Value.int IntKind.u8 0, Value.int IntKind.u8 0, Value.int IntKind.u8 0, Value.int IntKind.u8 0, Value.int IntKind.u8 0, Value.int IntKind.u8 0, Value.int IntKind.u8 0, Value.int IntKind.u8 0, Value.int IntKind.u8 0, Value.int IntKind.u8 0, Value.int IntKind.u8 0, Value.int IntKind.u8 0, Value.int IntKind.u8 0, Value.int IntKind.u8 0, Value.int IntKind.u8 0, Value.int IntKind.u8 0] 5)) (w.heap.size + 1) (rc (lo t) 0) := by
    exact heap_alloc2_new w _ _
  have O : Below w.heap.size w ((w.alloc (.cells (arr 32 t) 61)).alloc (.cells #[Value.int IntKind.u8 0, Value.int IntKind.u8 0, Value.int IntKind.u8 0, Value.int IntKind.u8 0, Value.int IntKind.u8 0, Value.int IntKind.u8 0, Value.int IntKind.u8 0, Value.int IntKind.u8 0, Value.int IntKind.u8 0, Value.int IntKind.u8 0, Value.int IntKind.u8 0, Value.int IntKind.u8 0, Value.int IntKind.u8 0, Value.int IntKind.u8 0, Value.int IntKind.u8 0, Value.int IntKind.u8 0, Value.int IntKind.u8 0, Value.int IntKind.u8 0, Value.int IntKind.u8 0, Value.int IntKind.u8 0, Value.int IntKind.u8 0, Value.int IntKind.u8 0, Value.int IntKind.u8 0, Value.int IntKind.u8 0, Value.int IntKind.u8 0, Value.int IntKind.u8 0, Value.int IntKind.u8 0, Value.int IntKind.u8 0, Value.int IntKind.u8 0, Value.int IntKind.u8 0, Value.int IntKind.u8 0, Value.int IntKind.u8 0, Value.int IntKind.u8 0, Value.int IntKind.u8 0, Value.int IntKind.u8 0, Value.int IntKind.u8 0, Value.int IntKind.u8 0, Value.int IntKind.u8 0, Value.int IntKind.u8 0, Value.int IntKind.u8 0, Value.int IntKind.u8 0, Value.int IntKind.u8 0, Value.int IntKind.u8 0, Value.int IntKind.u8 0, Value.int IntKind.u8 0, Value.int IntKind.u8 0, Value.int IntKind.u8 0, Value.int IntKind.u8 0, Value.int IntKind.u8 0, Value.int IntKind.u8 0, Value.int IntKind.u8 0, Value.int IntKind.u8 0, Value.int IntKind.u8 0, Value.int IntKind.u8 0, Value.int IntKind.u8 0, Value.int IntKind.u8 0, Value.int IntKind.u8 0, Value.int IntKind.u8 0, Value.int IntKind.u8 0, Value.int IntKind.u8 0, Value.int IntKind.u8 0, Value.int IntKind.u8 0, Value.int IntKind.u8 0, Value.int IntKind.u8 0] 5)) := ((Below.refl _ _).alloc (Nat.le_refl _) _).alloc (by simp) _
  generalize (w.alloc (.cells (arr 32 t) 61)).alloc (.cells #[Value.int IntKind.u8 0, Value.int IntKind.u8 0, Value.int IntKind.u8 0, Value.int IntKind.u8 0, Value.int IntKind.u8 0, Value.int IntKind.u8 0, Value.int IntKind.u8 0, Value.int IntKind.u8 0, Value.int IntKind.u8 0, Value.int IntKind.u8 0, Value.int IntKind.u8 0, Value.int IntKind.u8 0, Value.int IntKind.u8 0, Value.int IntKind.u8 0, Value.int IntKind.u8 0, Value.int IntKind.u8 0, Value.int IntKind.u8 0, Value.int IntKind.u8 0, Value.int IntKind.u8 0, Value.int IntKind.u8 0, Value.int IntKind.u8 0, Value.int IntKind.u8 0, Value.int IntKind.u8 0, Value.int IntKind.u8 0, Value.int IntKind.u8 0, Value.int IntKind.u8 0, Value.int IntKind.u8 0, Value.int IntKind.u8 0, Value.int IntKind.u8 0, Value.int IntKind.u8 0, Value.int IntKind.u8 0, Value.int IntKind.u8 0, Value.int IntKind.u8 0, Value.int IntKind.u8 0, Value.int IntKind.u8 0, Value.int IntKind.u8 0, Value.int IntKind.u8 0, Value.int IntKind.u8 0, Value.int IntKind.u8 0, Value.int IntKind.u8 0, Value.int IntKind.u8 0, Value.int IntKind.u8 0, Value.int IntKind.u8 0, Value.int IntKind.u8 0, Value.int IntKind.u8 0, Value.int IntKind.u8 0, Value.int IntKind.u8 0, Value.int IntKind.u8 0, Value.int IntKind.u8 0, Value.int IntKind.u8 0, Value.int IntKind.u8 0, Value.int IntKind.u8 0, Value.int IntKind.u8 0, Value.int IntKind.u8 0, Value.int IntKind.u8 0, Value.int IntKind.u8 0, Value.int IntKind.u8 0, Value.int IntKind.u8 0, Value.int IntKind.u8 0, Value.int IntKind.u8 0, Value.int IntKind.u8 0, Value.int IntKind.u8 0, Value.int IntKind.u8 0, Value.int IntKind.u8 0] 5) = W at R1 R2 O ⊢
  go_loopw [4, 5] (fun c i wr => ∃ k : Nat, k ≤ 32 ∧ c = .int .u64 (cf t k) ∧ i = .int .i64 k ∧ Row wr w.heap.size 61 32 t ∧ Byt wr (w.heap.size + 1) (rc (lo t) k) ∧ Below w.heap.size w wr) (fun _ i _ => 32 - (intOf i).toNat)
  case atStart => exact ⟨0, by omega, rfl, rfl, R1, R2, O⟩
  case round =>
    clear R1 R2 O
    obtain ⟨k, hk, rfl, rfl, R1, R2, O⟩ := hrel
    by_cases hlt : k < 32
    · have c := R1.cell hlt
      obtain ⟨a0, a1⟩ := cf_bd ht k hk
      obtain ⟨b0, b1⟩ := ht.b k hlt
      obtain ⟨v1, d1⟩ := R2.cell (i := 2 * k) (by rw [rc_len]; omega)
      obtain ⟨v2, d2⟩ := R2.cell (i := 2 * k + 1) (by rw [rc_len]; omega)
      have e := R2.free
      have i1 : (0 : Int) ≤ (k : Int) := by omega
      have i2 : (k : Int) < 32 := by omega
      go_wp2
      have x1 : by16 (lo t) (2 * k) = (t k + cf t k) % 256 := by rw [by16_lo]; unfold lo; omega
      have x2 : by16 (lo t) (2 * k + 1) = (t k + cf t k) / 256 % 256 := by rw [by16_hi]; unfold lo; omega
      have RR := (R2.set (2 * k) (by16 (lo t) (2 * k))).set (2 * k + 1) (by16 (lo t) (2 * k + 1))
      rw [rc_set, x1, x2] at RR
      exact ⟨⟨k + 1, by omega, rfl, by simp, (R1.other (a := ⟨w.heap.size + 1, 2 * k, none⟩) (by simp) _).other (a := ⟨w.heap.size + 1, 2 * k + 1, none⟩) (by simp) _, RR, (O.setCell (p := ⟨w.heap.size + 1, 2 * k, none⟩) (by simp) _).setCell (p := ⟨w.heap.size + 1, 2 * k + 1, none⟩) (by simp) _⟩, by simp [intOf]; omega⟩
    · have hk' : k = 32 := by omega
      subst hk'
      have hcv := conv_bytes wr (w.heap.size + 1) 5 (rc (lo t) 32) 64 64 (0, 0) R2 (rc_len _ _)
      clear R1 R2
      generalize hB : bs (rc (lo t) 32) = B at hcv
      have HB := hide hB
      clear hB
      go_wp2
      go_ret
      exact ⟨by rw [HB.out]; rfl, O⟩

end Go.Proofs.Ytaaijicpdampiaa
