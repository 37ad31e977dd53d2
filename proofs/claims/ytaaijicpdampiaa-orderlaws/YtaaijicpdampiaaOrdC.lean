/- The contracts of modulus, once and without: one number without another one, modulo the order. -/
import Derived.Test.YtaaijicpdampiaaOrdB
namespace Go.Proofs.Ytaaijicpdampiaa
open Go.RowKit

/-- The order of the base point. -/
def Lm : Int := 7237005577332262213973186563042994240857116359379907606001950938285454250989
def Lf : Nat → Int := fun i => [6346243789798364141, 1503914060200516822, 0, 1152921504606846976].getD i 0
theorem Lf_Q : Q Lf 4 = Lm := by decide +kernel
theorem Lf_wds : Wds Lf 4 := fun i hi => by
  rcases (show i = 0 ∨ i = 1 ∨ i = 2 ∨ i = 3 by omega) with rfl | rfl | rfl | rfl <;> exact ⟨by decide, by decide⟩

set_option maxHeartbeats 400000 in
theorem modulus_any (w : World) : Calls Try.prog 29 #[] w fun r w' => r = .returned (.agg (arr 4 Lf)) ∧ Below w.heap.size w w' := by
  go_enter Try.func29, Try.ntmps29
  go_wp2
  exact bodyPost_ret (v := .agg (arr 4 Lf)) (by simp [results, Try.results29, go_sem]; rfl) rfl ⟨rfl, (Below.refl _ _).alloc (Nat.le_refl _) _⟩

set_option maxRecDepth 100000 in
set_option maxHeartbeats 1000000 in
theorem once_any (f : Nat → Int) (c : Int) (w : World) (hf : Wds f 4) (hc : c = 0 ∨ c = 1) :
    Calls Try.prog 42 #[.agg (arr 4 f), .int .u64 c] w fun r w' => r = .returned (.agg (arr 4 fun i => f i * c)) ∧ Below w.heap.size w w' := by
  go_enter Try.func42, Try.ntmps42
  go_wp2
  rw [show #[Value.int IntKind.u64 0, Value.int IntKind.u64 0, Value.int IntKind.u64 0, Value.int IntKind.u64 0] = arr 4 (fun _ => 0) from rfl]
  have R1 : Row ((w.alloc (.cells (arr 4 f) 25)).alloc (.cells (arr 4 fun _ => 0) 25)) w.heap.size 25 4 f := (Row.new w 25 4 f).alloc _
  have R3 : Row ((w.alloc (.cells (arr 4 f) 25)).alloc (.cells (arr 4 fun _ => 0) 25)) (w.heap.size + 1) 25 4 (fun _ => 0) := Row.new' _ 25 4 _ (by simp)
  have O : Below w.heap.size w ((w.alloc (.cells (arr 4 f) 25)).alloc (.cells (arr 4 fun _ => 0) 25)) := ((Below.refl _ _).alloc (Nat.le_refl _) _).alloc (by simp) _
  generalize ((w.alloc (.cells (arr 4 f) 25)).alloc (.cells (arr 4 fun _ => 0) 25)) = W at R1 R3 O ⊢
  go_loopw [6] (fun i wr => ∃ k : Nat, k ≤ 4 ∧ i = .int .i64 k ∧ Row wr w.heap.size 25 4 (upto k (fun i => f i * c) f) ∧ Row wr (w.heap.size + 1) 25 4 (fun _ => 0) ∧ Below w.heap.size w wr) (fun i _ => 4 - (intOf i).toNat)
  case atStart => exact ⟨0, by omega, rfl, R1.congr (fun i _ => upto_zero _ _ i), R3, O⟩
  case round =>
    clear R1 R3 O
    obtain ⟨k, hk, rfl, R1, R3, O⟩ := hrel
    by_cases hlt : k < 4
    · have cc := R1.cell (i := k) hlt
      rw [upto_at] at cc
      have e := R1.free k
      have i1 : (0 : Int) ≤ (k : Int) := by omega
      have i2 : (k : Int) < 4 := by omega
      obtain ⟨f0, f1⟩ := hf k hlt
      have hw : IntKind.u64.wrap (f k * c) = f k * c := by
        rcases hc with rfl | rfl
        · rw [Int.mul_zero]; decide
        · rw [Int.mul_one]; exact wrap64u ⟨f0, f1⟩
      have m0 : 0 ≤ f k * c := by rcases hc with rfl | rfl <;> omega
      have m1 : f k * c < 18446744073709551616 := by rcases hc with rfl | rfl <;> omega
      have RR := hide ((R1.set k (f k * c)).congr (fun i _ => upto_next k (fun i => f i * c) f rfl i))
      have R3' := hide (R3.other (a := ⟨w.heap.size, k, none⟩) (by simp) (.int .u64 (f k * c)))
      have O' := hide (O.setCell (p := ⟨w.heap.size, k, none⟩) (Nat.le_refl _) (.int .u64 (f k * c)))
      clear R1 R3 O
      go_wp2
      go_roundw
      case rel => exact ⟨k + 1, by omega, by go_num, RR.out, R3'.out, O'.out⟩
      case measure => simp [intOf]; omega
    · have hk' : k = 4 := by omega
      subst hk'
      replace R1 := R1.congr (f' := fun i => f i * c) (fun i hi => upto_end _ _ i hi)
      have RR := hide (R3.setAll (fun i => f i * c))
      have OO := hide (below_setCells (g := w.heap.size + 1) (by omega) (arr 4 (fun i => f i * c)).toList 0 O)
      have HX := hide R1
      clear R1 O
      go_wp2_with (first | (refine wpList_load_row rfl 25 _ rfl w.heap.size rfl 25 (arr 4 (fun i => f i * c)) (0, 0) _ ?hgo Try.underlying25 rfl (info25 _) ?_) | (refine wpList_store_mid rfl 25 _ _ rfl (w.heap.size + 1) 0 (arr 4 (fun i => f i * c)) rfl rfl ?tho (info25 _) (arr_one _ _) ?_))
      case hgo => exact HX.out
      case tho => rw [arr_size]; exact R3.there
      exact bodyPost_ret (v := .agg (arr 4 fun i => f i * c)) (results_cell_row Try.results42 _ _ (w.heap.size + 1) 25 (arr 4 (fun i => f i * c)) (0, 0) _ rfl RR.out Try.underlying25 rfl (info25 _)) rfl ⟨rfl, OO.out⟩

theorem Q_mul (f : Nat → Int) (c : Int) : ∀ n, Q (fun i => f i * c) n = Q f n * c
  | 0 => by simp [Q]
  | n + 1 => by
    simp only [Q]
    rw [Q_mul f c n, Int.add_mul, Int.mul_assoc, Int.mul_assoc, Int.mul_comm c]

theorem P256 : (18446744073709551616 : Int) ^ 4 = 115792089237316195423570985008687907853269984665640564039457584007913129639936 := by decide

theorem wval {X Y R T b c P L : Int} (hb : b = 0 ∨ b = 1) (hc : c = 0 ∨ c = 1) (hL : L < P) (e1 : R - b * P = X - Y) (e2 : T + c * P = R + L * b) (_r0 : 0 ≤ R) (r1 : R < P) (t0 : 0 ≤ T) (t1 : T < P) (h0 : - L ≤ X - Y) (h1 : X - Y < L) : T = (X - Y) % L := by
  rcases hb with rfl | rfl
  · rcases hc with rfl | rfl
    · simp only [Int.zero_mul, Int.mul_zero] at e1 e2
      rw [Int.emod_eq_of_lt (by omega) h1]
      omega
    · simp only [Int.zero_mul, Int.mul_zero, Int.one_mul] at e1 e2
      omega
  · rcases hc with rfl | rfl
    · simp only [Int.zero_mul, Int.mul_one, Int.one_mul] at e1 e2
      omega
    · simp only [Int.mul_one, Int.one_mul] at e1 e2
      have e : (X - Y) % L = (X - Y + L) % L := by rw [Int.add_emod_right]
      rw [e, Int.emod_eq_of_lt (by omega) (by omega)]
      omega

theorem Lm_P : Lm < 18446744073709551616 ^ 4 := by decide
theorem Lm_pos : 0 < Lm := by decide
theorem lmod (X : Int) : 0 ≤ X % Lm ∧ X % Lm < Lm := ⟨Int.emod_nonneg _ (by decide), Int.emod_lt_of_pos _ Lm_pos⟩
theorem dQ {X : Int} (h : 0 ≤ X ∧ X < Lm) : Q (d64 X) 4 = X := by
  have := Lm_P
  rw [d64_Q _ h.1, Int.emod_eq_of_lt h.1 (by omega)]

theorem without_val {f g : Nat → Int} (hf : Wds f 4) (hg : Wds g 4) (h0 : - Lm ≤ Q f 4 - Q g 4) (h1 : Q f 4 - Q g 4 < Lm) :
    arr 4 (ps (ms f g) (fun i => Lf i * br f g 4)) = arr 4 (d64 ((Q f 4 - Q g 4) % Lm)) := by
  have hb := br_bd f g 4
  have hb2 : br f g 4 = 0 ∨ br f g 4 = 1 := by omega
  have wl : Wds (fun i => Lf i * br f g 4) 4 := fun i hi => by
    have h := Lf_wds i hi
    show W64 (Lf i * br f g 4)
    rcases hb2 with e | e
    · rw [e, Int.mul_zero]; exact ⟨by decide, by decide⟩
    · rw [e, Int.mul_one]; exact h
  have e1 := ms_Q hf hg 4 (by omega)
  have e2 := ps_Q (ms f g) (fun i => Lf i * br f g 4) 4
  have e3 := pc_bd (ms_wds f g 4) wl 4 (by omega)
  have b1 := Q_bd (ms_wds f g 4)
  have b2 := Q_bd (ps_wds (ms f g) (fun i => Lf i * br f g 4) 4)
  rw [Q_mul, Lf_Q] at e2
  refine arr_congr (Q_inj (ps_wds _ _ 4) (d64_wds _ 4) ?_)
  rw [dQ (lmod _)]
  exact wval hb2 (by omega) Lm_P e1 e2 b1.1 b1.2 b2.1 b2.2 h0 h1

end Go.Proofs.Ytaaijicpdampiaa
