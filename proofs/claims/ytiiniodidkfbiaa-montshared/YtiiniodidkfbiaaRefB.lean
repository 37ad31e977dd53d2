/- The document's prime and its minus. -/
import Derived.Test.YtiiniodidkfbiaaRefA
import Derived.BigQuiet
namespace Go.Proofs.Ytiiniodidkfbiaa
open Go.RowKit

/-- The digits of the prime, as far as they are laid. -/
def pk (k : Nat) : Nat → Int := fun i => if i = 0 then 65517 else if i < k then 65535 else 0
def pF : Nat → Int := upd (pk 15) 15 32767

set_option maxRecDepth 100000 in
set_option maxHeartbeats 1000000 in
theorem prime_any (w : World) : Calls Try.prog 40 #[] w fun r w' => r = .returned (.agg (arr 16 pF)) ∧ Below w.heap.size w w' := by
  go_enter Try.func40, Try.ntmps40
  go_wp2
  rw [show #[Value.int IntKind.u64 0, Value.int IntKind.u64 0, Value.int IntKind.u64 0, Value.int IntKind.u64 0, Value.int IntKind.u64 0, Value.int IntKind.u64 0, Value.int IntKind.u64 0, Value.int IntKind.u64 0, Value.int IntKind.u64 0, Value.int IntKind.u64 0, Value.int IntKind.u64 0, Value.int IntKind.u64 0, Value.int IntKind.u64 0, Value.int IntKind.u64 0, Value.int IntKind.u64 0, Value.int IntKind.u64 0] = arr 16 (fun _ => 0) from rfl]
  rw [show #[Value.int IntKind.u64 65517, Value.int IntKind.u64 0, Value.int IntKind.u64 0, Value.int IntKind.u64 0, Value.int IntKind.u64 0, Value.int IntKind.u64 0, Value.int IntKind.u64 0, Value.int IntKind.u64 0, Value.int IntKind.u64 0, Value.int IntKind.u64 0, Value.int IntKind.u64 0, Value.int IntKind.u64 0, Value.int IntKind.u64 0, Value.int IntKind.u64 0, Value.int IntKind.u64 0, Value.int IntKind.u64 0] = arr 16 (pk 1) from rfl]
  have R1 : Row ((w.alloc (.cells (arr 16 fun _ => 0) 35)).alloc (.cells (arr 16 (pk 1)) 35)) w.heap.size 35 16 (fun _ => 0) := (Row.new w 35 16 _).alloc _
  have R2 : Row ((w.alloc (.cells (arr 16 fun _ => 0) 35)).alloc (.cells (arr 16 (pk 1)) 35)) (w.heap.size + 1) 35 16 (pk 1) := Row.new' _ 35 16 _ (by simp)
  have O : Below w.heap.size w ((w.alloc (.cells (arr 16 fun _ => 0) 35)).alloc (.cells (arr 16 (pk 1)) 35)) := ((Below.refl _ _).alloc (Nat.le_refl _) _).alloc (by simp) _
  generalize (w.alloc (.cells (arr 16 fun _ => 0) 35)).alloc (.cells (arr 16 (pk 1)) 35) = W at R1 R2 O ⊢
  go_loopw [2] (fun i wr => ∃ k : Nat, 1 ≤ k ∧ k ≤ 15 ∧ i = .int .i64 k ∧ Row wr w.heap.size 35 16 (fun _ => 0) ∧ Row wr (w.heap.size + 1) 35 16 (pk k) ∧ Below w.heap.size w wr) (fun i _ => 15 - (intOf i).toNat)
  case atStart => exact ⟨1, by omega, by omega, rfl, R1, R2, O⟩
  case round =>
    clear R1 R2 O
    obtain ⟨k, hk0, hk, rfl, R1, R2, O⟩ := hrel
    by_cases hlt : k < 15
    · have d := R2.cell (i := k) (by omega)
      have e := R2.free k
      have RR := hide ((R2.set k 65535))
      have R1' := hide (R1.other (a := ⟨w.heap.size + 1, k, none⟩) (by simp) (.int .u64 65535))
      have O' := hide (O.setCell (p := ⟨w.heap.size + 1, k, none⟩) (by simp) (.int .u64 65535))
      clear R1 R2 O
      go_wp2
      go_roundw
      case rel => exact ⟨k + 1, by omega, by omega, by go_num, R1'.out, RR.out.congr (fun i _ => by unfold upd pk; by_cases h : i = k <;> by_cases h0 : i = 0 <;> simp [h, h0] <;> omega), O'.out⟩
      case measure => simp [intOf]; omega
    · have hk' : k = 15 := by omega
      subst hk'
      have d := R2.cell (i := 15) (by omega)
      have e := R2.free 15
      have R3 := R2.set 15 32767
      have R1' := R1.other (a := ⟨w.heap.size + 1, 15, none⟩) (by simp) (.int .u64 32767)
      have O' := O.setCell (p := ⟨w.heap.size + 1, 15, none⟩) (by simp) (.int .u64 32767)
      rw [show upd (pk 15) 15 32767 = pF from rfl] at R3
      have RR := hide (R1'.setAll pF)
      have OO := hide (below_setCells (g := w.heap.size) (Nat.le_refl _) (arr 16 pF).toList 0 O')
      clear R1 R2 O O' hlt hk hk0
      go_wp2_with (first | (refine wpList_load_row rfl 35 _ rfl (w.heap.size + 1) rfl 35 (arr 16 pF) (0, 0) _ R3 Try.underlying35 rfl (info35 _) ?_) | (refine wpList_store_mid rfl 35 _ _ rfl w.heap.size 0 (arr 16 pF) rfl rfl (by rw [arr_size]; exact R1'.there) (info35 _) (arr_one _ _) ?_))
      exact bodyPost_ret (v := .agg (arr 16 pF)) (results_cell_row Try.results40 _ _ w.heap.size 35 (arr 16 pF) (0, 0) _ rfl RR.out Try.underlying35 rfl (info35 _)) rfl ⟨rfl, OO.out⟩

theorem pF_dig : Dig pF 16 := fun i _ => by
  unfold pF upd pk
  by_cases h : i = 15
  · simp [h]
  · by_cases h0 : i = 0
    · simp [h0]
    · by_cases h1 : i < 15 <;> simp [h, h0, h1]
theorem pF_S : S pF 16 = Pm := by decide +kernel

/-- What is borrowed ahead of digit k. -/
def bor (a b : Nat → Int) : Nat → Int
  | 0 => 0
  | k + 1 => 1 - (65536 + a k - b k - bor a b k) / 65536
def minusF (a b : Nat → Int) : Nat → Int := fun i => (65536 + a i - b i - bor a b i) % 65536
def mk (a b : Nat → Int) (k : Nat) : Nat → Int := fun i => if i < k then minusF a b i else 0

theorem bor_bd {a b : Nat → Int} (ha : Dig a 16) (hb : Dig b 16) : ∀ k, k ≤ 16 → 0 ≤ bor a b k ∧ bor a b k ≤ 1
  | 0, _ => by simp [bor]
  | k + 1, h => by
    have ih := bor_bd ha hb k (by omega)
    have h1 := ha k (by omega)
    have h2 := hb k (by omega)
    simp only [bor]
    omega

theorem minusF_dig (a b : Nat → Int) (n : Nat) : Dig (minusF a b) n := fun i _ => by unfold minusF; omega

theorem minus_S (a b : Nat → Int) : ∀ k, S (minusF a b) k = S a k - S b k + bor a b k * 65536 ^ k
  | 0 => by simp [S, bor]
  | k + 1 => by
    have ih := minus_S a b k
    have e : bor a b (k + 1) * 65536 ^ (k + 1) = 65536 * bor a b (k + 1) * 65536 ^ k := by rw [p16s, ← Int.mul_assoc, Int.mul_comm (bor a b (k + 1)) 65536]
    have e2 : minusF a b k = a k - b k - bor a b k + 65536 * bor a b (k + 1) := by
      simp only [minusF, bor]
      omega
    simp only [S]
    rw [ih, e, e2, Int.add_mul, Int.sub_mul, Int.sub_mul]
    omega

theorem minus_le {a b : Nat → Int} (ha : Dig a 16) (hb : Dig b 16) (h : S b 16 ≤ S a 16) : S (minusF a b) 16 = S a 16 - S b 16 := by
  have e := minus_S a b 16
  have h0 := bor_bd ha hb 16 (by omega)
  have h1 := S_bd (minusF_dig a b 16)
  have h2 := S_bd ha
  have h3 := S_bd hb
  have : bor a b 16 = 0 ∨ bor a b 16 = 1 := by omega
  rcases this with h4 | h4
  · rw [h4] at e; omega
  · rw [h4] at e; omega

theorem and16 {x : Int} (h0 : 0 ≤ x) (h1 : x < 18446744073709551616) : bits .and .u64 x 65535 = x % 65536 := by
  rw [u64_and x _ h0 h1 (by decide) (by decide)]
  have e : (65535 : Int).toNat = 65535 := by decide
  rw [e, nat_mask16]
  omega

set_option maxRecDepth 100000 in
set_option maxHeartbeats 1000000 in
theorem minus_any (a b : Nat → Int) (w : World) (ha : Dig a 16) (hb : Dig b 16) : Calls Try.prog 41 #[.agg (arr 16 a), .agg (arr 16 b)] w fun r w' => r = .returned (.agg (arr 16 (minusF a b))) ∧ Below w.heap.size w w' := by
  go_enter Try.func41, Try.ntmps41
  go_wp2
  rw [show #[Value.int IntKind.u64 0, Value.int IntKind.u64 0, Value.int IntKind.u64 0, Value.int IntKind.u64 0, Value.int IntKind.u64 0, Value.int IntKind.u64 0, Value.int IntKind.u64 0, Value.int IntKind.u64 0, Value.int IntKind.u64 0, Value.int IntKind.u64 0, Value.int IntKind.u64 0, Value.int IntKind.u64 0, Value.int IntKind.u64 0, Value.int IntKind.u64 0, Value.int IntKind.u64 0, Value.int IntKind.u64 0] = arr 16 (fun _ => 0) from rfl]
  have R1 : Row ((((w.alloc (.cells (arr 16 a) 35)).alloc (.cells (arr 16 b) 35)).alloc (.cells (arr 16 fun _ => 0) 35)).alloc (.cells (arr 16 fun _ => 0) 35)) w.heap.size 35 16 a := (((Row.new w 35 16 a).alloc _).alloc _).alloc _
  have R2 : Row ((((w.alloc (.cells (arr 16 a) 35)).alloc (.cells (arr 16 b) 35)).alloc (.cells (arr 16 fun _ => 0) 35)).alloc (.cells (arr 16 fun _ => 0) 35)) (w.heap.size + 1) 35 16 b := ((Row.new' _ 35 16 _ (by simp)).alloc _).alloc _
  have R3 : Row ((((w.alloc (.cells (arr 16 a) 35)).alloc (.cells (arr 16 b) 35)).alloc (.cells (arr 16 fun _ => 0) 35)).alloc (.cells (arr 16 fun _ => 0) 35)) (w.heap.size + 1 + 1) 35 16 (fun _ => 0) := (Row.new' _ 35 16 _ (by simp)).alloc _
  have R4 : Row ((((w.alloc (.cells (arr 16 a) 35)).alloc (.cells (arr 16 b) 35)).alloc (.cells (arr 16 fun _ => 0) 35)).alloc (.cells (arr 16 fun _ => 0) 35)) (w.heap.size + 1 + 1 + 1) 35 16 (fun _ => 0) := Row.new' _ 35 16 _ (by simp)
  have O : Below w.heap.size w ((((w.alloc (.cells (arr 16 a) 35)).alloc (.cells (arr 16 b) 35)).alloc (.cells (arr 16 fun _ => 0) 35)).alloc (.cells (arr 16 fun _ => 0) 35)) := ((((Below.refl _ _).alloc (Nat.le_refl _) _).alloc (by simp) _).alloc (by simp; omega) _).alloc (by simp; omega) _
  generalize (((w.alloc (.cells (arr 16 a) 35)).alloc (.cells (arr 16 b) 35)).alloc (.cells (arr 16 fun _ => 0) 35)).alloc (.cells (arr 16 fun _ => 0) 35) = W at R1 R2 R3 R4 O ⊢
  go_loopw [6, 7] (fun bo i wr => ∃ k : Nat, k ≤ 16 ∧ bo = .int .u64 (bor a b k) ∧ i = .int .i64 k ∧ Row wr w.heap.size 35 16 a ∧ Row wr (w.heap.size + 1) 35 16 b ∧ Row wr (w.heap.size + 1 + 1) 35 16 (fun _ => 0) ∧ Row wr (w.heap.size + 1 + 1 + 1) 35 16 (mk a b k) ∧ Below w.heap.size w wr) (fun _ i _ => 16 - (intOf i).toNat)
  case atStart => exact ⟨0, by omega, rfl, rfl, R1, R2, R3, R4, O⟩
  case round =>
    clear R1 R2 R3 R4 O
    obtain ⟨k, hk, rfl, rfl, R1, R2, R3, R4, O⟩ := hrel
    by_cases hlt : k < 16
    · have c := R1.cell hlt
      have d := R2.cell hlt
      have x := R4.cell (i := k) hlt
      have e := R4.free k
      obtain ⟨a0, a1⟩ := ha k hlt
      obtain ⟨b0, b1⟩ := hb k hlt
      obtain ⟨q0, q1⟩ := bor_bd ha hb k (by omega)
      have i1 : (0 : Int) ≤ (k : Int) := by omega
      have i2 : (k : Int) < 16 := by omega
      have ea := and16 (x := 65536 + a k - b k - bor a b k) (by omega) (by omega)
      have HB := hide (show bor a b (k + 1) = 1 - (65536 + a k - b k - bor a b k) / 65536 from rfl)
      have RR := hide (fun n => (rowN R4 n).set k ((65536 + a k - b k - bor a b k) % 65536))
      have R1' := hide (fun n => (rowN R1 n).other (a := ⟨w.heap.size + 1 + 1 + 1, k, none⟩) (by simp; omega) (.int .u64 ((65536 + a k - b k - bor a b k) % 65536)))
      have R2' := hide (fun n => (rowN R2 n).other (a := ⟨w.heap.size + 1 + 1 + 1, k, none⟩) (by simp) (.int .u64 ((65536 + a k - b k - bor a b k) % 65536)))
      have R3' := hide (fun n => (rowN R3 n).other (a := ⟨w.heap.size + 1 + 1 + 1, k, none⟩) (by simp) (.int .u64 ((65536 + a k - b k - bor a b k) % 65536)))
      have O' := hide (fun n => (belN (n := n) O).setCell (p := ⟨w.heap.size + 1 + 1 + 1, k, none⟩) (by simp; omega) (.int .u64 ((65536 + a k - b k - bor a b k) % 65536)))
      clear R1 R2 R3 R4 O
      generalize hbo : bor a b k = bo at *
      have HO := hide hbo
      clear hbo
      go_wp2_with fail
      go_quiet (fail)
      go_wp2
      exact ⟨⟨k + 1, by omega, by rw [HB.out], by go_num, R1'.out _, R2'.out _, R3'.out _, (RR.out _).congr (fun i _ => by
        unfold upd mk
        by_cases h : i = k
        · subst h
          simp [minusF, HO.out]
        · simp [h]
          omega), O'.out _⟩, by simp [intOf]; omega⟩
    · have hk' : k = 16 := by omega
      subst hk'
      have e : arr 16 (mk a b 16) = arr 16 (minusF a b) := arr_congr fun i hi => by unfold mk; rw [if_pos hi]
      unfold Row at R4
      rw [e] at R4
      have RR := hide (R3.setAll (minusF a b))
      have OO := hide (below_setCells (g := w.heap.size + 1 + 1) (by omega) (arr 16 (minusF a b)).toList 0 O)
      go_wp2_with (first | (refine wpList_load_row rfl 35 _ rfl (w.heap.size + 1 + 1 + 1) rfl 35 (arr 16 (minusF a b)) (0, 0) _ R4 Try.underlying35 rfl (info35 _) ?_) | (refine wpList_store_mid rfl 35 _ _ rfl (w.heap.size + 1 + 1) 0 (arr 16 (minusF a b)) rfl rfl (by rw [arr_size]; exact R3.there) (info35 _) (arr_one _ _) ?_))
      exact bodyPost_ret (v := .agg (arr 16 (minusF a b))) (results_cell_row Try.results41 _ _ (w.heap.size + 1 + 1) 35 (arr 16 (minusF a b)) (0, 0) _ rfl RR.out Try.underlying35 rfl (info35 _)) rfl ⟨rfl, OO.out⟩

end Go.Proofs.Ytiiniodidkfbiaa
