/- Numbers of 16 digits of 16 bits, as the document's answer has them: wide, Less, minus. -/
import Derived.Test.YtiiniodidkfbiaaRowB
import Derived.Laws.BitsAllLaws
namespace Go.Proofs.Ytiiniodidkfbiaa
open Go.RowKit

/-- The number of the first n digits. -/
def S (f : Nat → Int) : Nat → Int
  | 0 => 0
  | n + 1 => S f n + f n * 65536 ^ n

theorem p16 (n : Nat) : (0 : Int) < 65536 ^ n := Int.pow_pos (by decide)
theorem p16s (n : Nat) : (65536 : Int) ^ (n + 1) = 65536 * 65536 ^ n := by rw [Int.pow_succ, Int.mul_comm]

/-- Each of the first n digits is one. -/
def Dig (f : Nat → Int) (n : Nat) : Prop := ∀ i, i < n → 0 ≤ f i ∧ f i < 65536

theorem Dig.le {f : Nat → Int} {n m : Nat} (h : Dig f n) (hm : m ≤ n) : Dig f m := fun i hi => h i (by omega)

theorem S_bd {f : Nat → Int} : ∀ {n : Nat}, Dig f n → 0 ≤ S f n ∧ S f n < 65536 ^ n
  | 0, _ => by simp [S]
  | n + 1, h => by
    have ih := S_bd (n := n) (h.le (by omega))
    have hd := h n (by omega)
    have hp := p16 n
    have h1 : f n * 65536 ^ n ≤ 65535 * 65536 ^ n := Int.mul_le_mul_of_nonneg_right (by omega) (by omega)
    have h2 : 0 ≤ f n * 65536 ^ n := Int.mul_nonneg hd.1 (by omega)
    rw [p16s]
    simp only [S]
    omega

theorem S_congr {f g : Nat → Int} : ∀ {n : Nat}, (∀ i, i < n → f i = g i) → S f n = S g n
  | 0, _ => rfl
  | n + 1, h => by
    simp only [S]
    rw [S_congr (n := n) fun i hi => h i (by omega), h n (by omega)]

theorem S_above {f g : Nat → Int} {p : Nat} : ∀ {n : Nat}, p ≤ n → (∀ j, p ≤ j → j < n → f j = g j) → S f n - S g n = S f p - S g p := by
  intro n
  induction n with
  | zero => intro h _; have : p = 0 := by omega
            subst this; rfl
  | succ n ih =>
    intro h he
    by_cases hp : p = n + 1
    · subst hp; rfl
    · have h1 := ih (by omega) fun j a b => he j a (by omega)
      simp only [S]
      rw [he n (by omega) (by omega)]
      omega

theorem S_lt {f g : Nat → Int} {p : Nat} (hf : Dig f 16) (hg : Dig g 16) (hp : p < 16) (he : ∀ j, p + 1 ≤ j → j < 16 → f j = g j) (hne : f p ≠ g p) : decide (f p < g p) = decide (S f 16 < S g 16) := by
  have h1 := S_above (n := 16) (by omega) he
  have h2 := S_bd (hf.le (m := p) (by omega))
  have h3 := S_bd (hg.le (m := p) (by omega))
  have hx := p16 p
  simp only [S] at h1
  generalize S f p = sf at *
  generalize S g p = sg at *
  generalize (65536 : Int) ^ p = X at *
  have hS : (S f 16 < S g 16) ↔ f p < g p := by
    constructor
    · intro h
      apply Int.lt_of_not_ge
      intro hge
      have : f p ≥ g p + 1 := by omega
      have : (f p - g p) * X ≥ 1 * X := Int.mul_le_mul_of_nonneg_right (by omega) (by omega)
      rw [Int.sub_mul] at this
      have e16 : S f 16 - S g 16 < 0 := by omega
      simp only [S] at e16
      omega
    · intro h
      have : (g p - f p) * X ≥ 1 * X := Int.mul_le_mul_of_nonneg_right (by omega) (by omega)
      rw [Int.sub_mul] at this
      have e16 : ∀ d, S f 16 - S g 16 = d → d < 0 → S f 16 < S g 16 := fun d a b => by omega
      simp only [S] at e16 ⊢
      omega
  exact decide_eq_decide.2 hS.symm

/-- What wide has copied. -/
def wid (f : Nat → Int) (k : Nat) : Nat → Int := fun i => if i < k then f i else 0

set_option maxRecDepth 100000 in
set_option maxHeartbeats 1000000 in
theorem wide_any (f : Nat → Int) (w : World) : Calls Try.prog 22 #[.agg (arr 16 f)] w fun r w' => r = .returned (.agg (arr 32 (wid f 16))) ∧ Below w.heap.size w w' := by
  go_enter Try.func22, Try.ntmps22
  go_wp2
  rw [show #[Value.int IntKind.u64 0, Value.int IntKind.u64 0, Value.int IntKind.u64 0, Value.int IntKind.u64 0, Value.int IntKind.u64 0, Value.int IntKind.u64 0, Value.int IntKind.u64 0, Value.int IntKind.u64 0, Value.int IntKind.u64 0, Value.int IntKind.u64 0, Value.int IntKind.u64 0, Value.int IntKind.u64 0, Value.int IntKind.u64 0, Value.int IntKind.u64 0, Value.int IntKind.u64 0, Value.int IntKind.u64 0, Value.int IntKind.u64 0, Value.int IntKind.u64 0, Value.int IntKind.u64 0, Value.int IntKind.u64 0, Value.int IntKind.u64 0, Value.int IntKind.u64 0, Value.int IntKind.u64 0, Value.int IntKind.u64 0, Value.int IntKind.u64 0, Value.int IntKind.u64 0, Value.int IntKind.u64 0, Value.int IntKind.u64 0, Value.int IntKind.u64 0, Value.int IntKind.u64 0, Value.int IntKind.u64 0, Value.int IntKind.u64 0] = arr 32 (fun _ => 0) from rfl]
  have R1 : Row (((w.alloc (.cells (arr 16 f) 35)).alloc (.cells (arr 32 fun _ => 0) 50)).alloc (.cells (arr 32 fun _ => 0) 50)) w.heap.size 35 16 f := ((Row.new w 35 16 f).alloc _).alloc _
  have R2 : Row (((w.alloc (.cells (arr 16 f) 35)).alloc (.cells (arr 32 fun _ => 0) 50)).alloc (.cells (arr 32 fun _ => 0) 50)) (w.heap.size + 1) 50 32 fun _ => 0 := (Row.new' _ 50 32 _ (by simp)).alloc _
  have R3 : Row (((w.alloc (.cells (arr 16 f) 35)).alloc (.cells (arr 32 fun _ => 0) 50)).alloc (.cells (arr 32 fun _ => 0) 50)) (w.heap.size + 1 + 1) 50 32 fun _ => 0 := Row.new' _ 50 32 _ (by simp)
  have O : Below w.heap.size w (((w.alloc (.cells (arr 16 f) 35)).alloc (.cells (arr 32 fun _ => 0) 50)).alloc (.cells (arr 32 fun _ => 0) 50)) := (((Below.refl _ _).alloc (Nat.le_refl _) _).alloc (by simp) _).alloc (by simp; omega) _
  generalize ((w.alloc (.cells (arr 16 f) 35)).alloc (.cells (arr 32 fun _ => 0) 50)).alloc (.cells (arr 32 fun _ => 0) 50) = W at R1 R2 R3 O ⊢
  go_loopw [4] (fun i wr => ∃ k : Nat, k ≤ 16 ∧ i = .int .i64 k ∧ Row wr w.heap.size 35 16 f ∧ Row wr (w.heap.size + 1) 50 32 (fun _ => 0) ∧ Row wr (w.heap.size + 1 + 1) 50 32 (wid f k) ∧ Below w.heap.size w wr) (fun i _ => 16 - (intOf i).toNat)
  case atStart => exact ⟨0, by omega, rfl, R1, R2, R3, O⟩
  case round =>
    clear R1 R2 R3 O
    obtain ⟨k, hk, rfl, R1, R2, R3, O⟩ := hrel
    by_cases hlt : k < 16
    · have c := R1.cell hlt
      have d := R3.cell (i := k) (by omega)
      have e := R3.free k
      have RR := hide ((R3.set k (f k)))
      have R1' := hide (R1.other (a := ⟨w.heap.size + 1 + 1, k, none⟩) (by simp; omega) (.int .u64 (f k)))
      have R2' := hide (R2.other (a := ⟨w.heap.size + 1 + 1, k, none⟩) (by simp) (.int .u64 (f k)))
      have O' := hide (O.setCell (p := ⟨w.heap.size + 1 + 1, k, none⟩) (by simp; omega) (.int .u64 (f k)))
      clear R1 R2 R3 O
      go_wp2
      go_roundw
      case rel => exact ⟨k + 1, by omega, by go_num, R1'.out, R2'.out, RR.out.congr (fun i _ => by unfold upd wid; by_cases h : i = k <;> simp [h] <;> omega), O'.out⟩
      case measure => simp [intOf]; omega
    · have hk' : k = 16 := by omega
      subst hk'
      have RR := hide (R2.setAll (wid f 16))
      have OO := hide (below_setCells (g := w.heap.size + 1) (by omega) (arr 32 (wid f 16)).toList 0 O)
      go_wp2_with (first | (refine wpList_load_row rfl 50 _ rfl (w.heap.size + 1 + 1) rfl 50 (arr 32 (wid f 16)) (0, 0) _ R3 Try.underlying50 rfl (info50 _) ?_) | (refine wpList_store_mid rfl 50 _ _ rfl (w.heap.size + 1) 0 (arr 32 (wid f 16)) rfl rfl (by rw [arr_size]; exact R2.there) (info50 _) (arr_one _ _) ?_))
      exact bodyPost_ret (v := .agg (arr 32 (wid f 16))) (results_cell_row Try.results22 _ _ (w.heap.size + 1) 50 (arr 32 (wid f 16)) (0, 0) _ rfl RR.out Try.underlying50 rfl (info50 _)) rfl ⟨rfl, OO.out⟩

theorem rowN {w : World} {g : Nat} {T : TypeId} {n : Nat} {f : Nat → Int} (h : Row w g T n f) (k : Nat) : Row (w.drewN k) g T n f := h
theorem belN {B : Nat} {a w : World} {n : Nat} (h : Below B a w) : Below B a (w.drewN n) := ⟨h.os, h.tape, h.output, h.size, h.block⟩

set_option maxRecDepth 100000 in
set_option maxHeartbeats 1000000 in
theorem less_any (f g : Nat → Int) (w : World) (hf : Dig f 16) (hg : Dig g 16) : Calls Try.prog 39 #[.agg (arr 16 f), .agg (arr 16 g)] w fun r w' => r = .returned (.bool (decide (S f 16 < S g 16))) ∧ Below w.heap.size w w' := by
  go_enter Try.func39, Try.ntmps39
  go_wp2
  have R1 : Row ((w.alloc (.cells (arr 16 f) 35)).alloc (.cells (arr 16 g) 35)) w.heap.size 35 16 f := (Row.new w 35 16 f).alloc _
  have R2 : Row ((w.alloc (.cells (arr 16 f) 35)).alloc (.cells (arr 16 g) 35)) (w.heap.size + 1) 35 16 g := Row.new' _ 35 16 _ (by simp)
  have O : Below w.heap.size w ((w.alloc (.cells (arr 16 f) 35)).alloc (.cells (arr 16 g) 35)) := ((Below.refl _ _).alloc (Nat.le_refl _) _).alloc (by simp) _
  generalize (w.alloc (.cells (arr 16 f) 35)).alloc (.cells (arr 16 g) 35) = W at R1 R2 O ⊢
  go_loopw [5] (fun i wr => ∃ m : Nat, m ≤ 16 ∧ (∃ v : Int, v = (m : Int) - 1 ∧ i = .int .i64 v) ∧ (∀ j, m ≤ j → j < 16 → f j = g j) ∧ Row wr w.heap.size 35 16 f ∧ Row wr (w.heap.size + 1) 35 16 g ∧ Below w.heap.size w wr) (fun i _ => (intOf i + 1).toNat)
  case atStart => exact ⟨16, by omega, ⟨15, by omega, rfl⟩, fun j a b => by omega, R1, R2, O⟩
  case round =>
    clear R1 R2 O
    obtain ⟨m, hm, ⟨v, hv, hi⟩, hall, R1, R2, O⟩ := hrel
    rcases m with _ | p
    · have e : v = -1 := by omega
      rw [e] at hi
      clear hv e
      subst hi
      have HS := hide (S_congr (n := 16) fun i hi => hall i (by omega) hi)
      clear hall
      go_wp2
      go_ret
      refine ⟨?_, O⟩
      rw [HS.out]
      simp
    · have e : v = (p : Int) := by omega
      rw [e] at hi
      clear hv e
      subst hi
      have c := R1.cell (i := p) (by omega)
      have d := R2.cell (i := p) (by omega)
      have i1 : (0 : Int) ≤ (p : Int) := by omega
      have i2 : (p : Int) < 16 := by omega
      have HA := hide hall
      clear hall
      by_cases hfg : f p = g p
      · have hb : (f p != g p) = false := by simp [hfg]
        have HF := hide hfg
        clear hfg
        go_wp2_with fail
        go_quiet (fail)
        go_wp2
        go_roundw
        case rel => exact ⟨p, by omega, ⟨_, by omega, rfl⟩, fun j a b => by
          by_cases hj : j = p
          · rw [hj]; exact HF.out
          · exact HA.out j (by omega) b, rowN R1 _, rowN R2 _, belN O⟩
        case measure => simp [intOf]
      · have hb : (f p != g p) = true := by simp [hfg]
        have HL := hide (S_lt hf hg (p := p) (by omega) HA.out hfg)
        clear hfg
        go_wp2_with fail
        go_quiet (fail)
        go_wp2_with fail
        go_quiet (fail)
        go_wp2
        go_ret
        exact ⟨by rw [← HL.out]; rfl, belN (belN O)⟩

end Go.Proofs.Ytiiniodidkfbiaa
