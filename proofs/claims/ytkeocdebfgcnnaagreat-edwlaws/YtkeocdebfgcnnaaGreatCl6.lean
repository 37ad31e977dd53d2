/- Part 6 of the walks and facts behind edwLaws_holds. -/
import Derived.Test.YtkeocdebfgcnnaaGreatCl5
import Derived.Deep.Cut
import Derived.Deep.RegionWith
import Derived.Laws.BytesString
import Derived.Laws.IdiomStrings
import Derived.Laws.Rows
/- Numbers of words of 64 bits: sums with carries, differences with borrows. -/
namespace Go.Proofs.YtkeocdebfgcnnaaGreat.Ord
open Go.RowKit

/-- The number of the first n words. -/
def Q (f : Nat → Int) : Nat → Int
  | 0 => 0
  | n + 1 => Q f n + f n * 18446744073709551616 ^ n
/-- Each of the first n words is one. -/
def Wds (f : Nat → Int) (n : Nat) : Prop := ∀ i, i < n → W64 (f i)
theorem Wds.le {f : Nat → Int} {n m : Nat} (h : Wds f n) (hm : m ≤ n) : Wds f m := fun i hi => h i (by omega)
theorem p64 (n : Nat) : (0 : Int) < 18446744073709551616 ^ n := Int.pow_pos (by decide)
theorem p64s (n : Nat) : (18446744073709551616 : Int) ^ (n + 1) = 18446744073709551616 * 18446744073709551616 ^ n := by rw [Int.pow_succ, Int.mul_comm]
theorem Q_congr {f g : Nat → Int} : ∀ {n : Nat}, (∀ i, i < n → f i = g i) → Q f n = Q g n
  | 0, _ => rfl
  | n + 1, h => by
    simp only [Q]
    rw [Q_congr (n := n) fun i hi => h i (by omega), h n (by omega)]
theorem Q_bd {f : Nat → Int} : ∀ {n : Nat}, Wds f n → 0 ≤ Q f n ∧ Q f n < 18446744073709551616 ^ n
  | 0, _ => by simp [Q]
  | n + 1, h => by
    have ih := Q_bd (n := n) (h.le (by omega))
    have hd := h n (by omega)
    have hp := p64 n
    have h1 : f n * 18446744073709551616 ^ n ≤ 18446744073709551615 * 18446744073709551616 ^ n := Int.mul_le_mul_of_nonneg_right (by have := hd.2; omega) (by omega)
    have h2 : 0 ≤ f n * 18446744073709551616 ^ n := Int.mul_nonneg hd.1 (by omega)
    rw [p64s]
    simp only [Q]
    omega

/-- The carry into word k. -/
def pc (f g : Nat → Int) : Nat → Int
  | 0 => 0
  | k + 1 => (f k + g k + pc f g k) / 18446744073709551616
def ps (f g : Nat → Int) : Nat → Int := fun k => (f k + g k + pc f g k) % 18446744073709551616
theorem pc_bd {f g : Nat → Int} (hf : Wds f 4) (hg : Wds g 4) : ∀ k, k ≤ 4 → 0 ≤ pc f g k ∧ pc f g k ≤ 1
  | 0, _ => by simp [pc]
  | k + 1, h => by
    have ih := pc_bd hf hg k (by omega)
    have h1 := hf k (by omega)
    have h2 := hg k (by omega)
    unfold W64 at h1 h2
    simp only [pc]
    omega
theorem ps_wds (f g : Nat → Int) (n : Nat) : Wds (ps f g) n := fun i _ => by unfold ps W64; omega
theorem ps_Q (f g : Nat → Int) : ∀ k, Q (ps f g) k + pc f g k * 18446744073709551616 ^ k = Q f k + Q g k
  | 0 => by simp [Q, pc]
  | k + 1 => by
    have ih := ps_Q f g k
    have e : pc f g (k + 1) * 18446744073709551616 ^ (k + 1) = 18446744073709551616 * pc f g (k + 1) * 18446744073709551616 ^ k := by rw [p64s, ← Int.mul_assoc, Int.mul_comm (pc f g (k + 1)) 18446744073709551616]
    have e2 : ps f g k = f k + g k + pc f g k - 18446744073709551616 * pc f g (k + 1) := by
      simp only [ps, pc]
      omega
    simp only [Q]
    rw [e, e2, Int.sub_mul, Int.add_mul, Int.add_mul]
    omega

/-- The borrow from word k. -/
def br (f g : Nat → Int) : Nat → Int
  | 0 => 0
  | k + 1 => if f k < g k + br f g k then 1 else 0
def ms (f g : Nat → Int) : Nat → Int := fun k => (f k - g k - br f g k) % 18446744073709551616
theorem br_bd (f g : Nat → Int) : ∀ k, 0 ≤ br f g k ∧ br f g k ≤ 1
  | 0 => by simp [br]
  | k + 1 => by
    simp only [br]
    split <;> omega
theorem ms_wds (f g : Nat → Int) (n : Nat) : Wds (ms f g) n := fun i _ => by unfold ms W64; omega
theorem ms_Q {f g : Nat → Int} (hf : Wds f 4) (hg : Wds g 4) : ∀ k, k ≤ 4 → Q (ms f g) k - br f g k * 18446744073709551616 ^ k = Q f k - Q g k
  | 0, _ => by simp [Q, br]
  | k + 1, h => by
    have ih := ms_Q hf hg k (by omega)
    have h1 := hf k (by omega)
    have h2 := hg k (by omega)
    have h3 := br_bd f g k
    unfold W64 at h1 h2
    have e : br f g (k + 1) * 18446744073709551616 ^ (k + 1) = 18446744073709551616 * br f g (k + 1) * 18446744073709551616 ^ k := by rw [p64s, ← Int.mul_assoc, Int.mul_comm (br f g (k + 1)) 18446744073709551616]
    have e2 : ms f g k = f k - g k - br f g k + 18446744073709551616 * br f g (k + 1) := by
      simp only [ms, br]
      split <;> omega
    simp only [Q]
    rw [e, e2, Int.add_mul, Int.sub_mul, Int.sub_mul]
    omega

/-- The words of a number. -/
def d64 (N : Int) : Nat → Int := fun i => N / 18446744073709551616 ^ i % 18446744073709551616
theorem d64_wds (N : Int) (n : Nat) : Wds (d64 N) n := fun i _ => by unfold d64 W64; omega
theorem d64_Q (N : Int) (h0 : 0 ≤ N) : ∀ n, Q (d64 N) n = N % 18446744073709551616 ^ n
  | 0 => by simp [Q, Int.emod_one]
  | n + 1 => by
    simp only [Q]
    rw [d64_Q N h0 n, d64, Int.pow_succ]
    have hp := p64 n
    have e1 := Int.emod_add_mul_ediv N (18446744073709551616 ^ n)
    have e2 := Int.emod_add_mul_ediv (N / 18446744073709551616 ^ n) 18446744073709551616
    rw [Int.emod_def N (18446744073709551616 ^ n * 18446744073709551616), ← Int.ediv_ediv_of_nonneg (by omega)]
    generalize N / 18446744073709551616 ^ n = A at *
    have e3 : A % 18446744073709551616 * 18446744073709551616 ^ n = A * 18446744073709551616 ^ n - 18446744073709551616 * (A / 18446744073709551616) * 18446744073709551616 ^ n := by
      rw [← Int.sub_mul]
      congr 1
      omega
    rw [e3]
    generalize A / 18446744073709551616 = B at *
    generalize (18446744073709551616 : Int) ^ n = X at *
    rw [Int.mul_comm A X, show 18446744073709551616 * B * X = X * 18446744073709551616 * B by rw [Int.mul_comm (18446744073709551616 * B) X, ← Int.mul_assoc]]
    omega
theorem Q_inj {f g : Nat → Int} : ∀ {n : Nat}, Wds f n → Wds g n → Q f n = Q g n → ∀ i, i < n → f i = g i
  | 0, _, _, _, i, hi => by omega
  | n + 1, hf, hg, h, i, hi => by
    have b1 := Q_bd (hf.le (m := n) (by omega))
    have b2 := Q_bd (hg.le (m := n) (by omega))
    have hp := p64 n
    simp only [Q] at h
    have hn : f n = g n := by
      generalize Q f n = a at *
      generalize Q g n = b at *
      generalize (18446744073709551616 : Int) ^ n = X at *
      have h2 : (f n - g n) * X = b - a := by rw [Int.sub_mul]; omega
      by_cases e : f n - g n = 0
      · omega
      · exfalso
        by_cases hl : 1 ≤ f n - g n
        · have : 1 * X ≤ (f n - g n) * X := Int.mul_le_mul_of_nonneg_right hl (by omega)
          omega
        · have : (f n - g n) * X ≤ (-1) * X := Int.mul_le_mul_of_nonneg_right (by omega) (by omega)
          omega
    by_cases hi2 : i = n
    · rw [hi2]; exact hn
    · exact Q_inj (n := n) (hf.le (by omega)) (hg.le (by omega)) (by rw [hn] at h; omega) i (by omega)

/-- Of the words f the first k have become those of r. -/
def upto (k : Nat) (r f : Nat → Int) : Nat → Int := fun i => if i < k then r i else f i
theorem upto_zero (r f : Nat → Int) (i : Nat) : f i = upto 0 r f i := by unfold upto; rw [if_neg (by omega)]
theorem upto_at (k : Nat) (r f : Nat → Int) : upto k r f k = f k := by unfold upto; rw [if_neg (by omega)]
theorem upto_end {n : Nat} (r f : Nat → Int) (i : Nat) (hi : i < n) : upto n r f i = r i := by unfold upto; rw [if_pos hi]
theorem upto_next (k : Nat) (r f : Nat → Int) {v : Int} (hv : r k = v) (i : Nat) : upd (upto k r f) k v i = upto (k + 1) r f i := by
  unfold upd upto
  by_cases h : i = k
  · subst h
    rw [if_pos rfl, if_pos (by omega), hv]
  · rw [if_neg h]
    by_cases h2 : i < k
    · rw [if_pos h2, if_pos (by omega)]
    · rw [if_neg h2, if_neg (by omega)]
theorem rowD {w : World} {g : Nat} {T : TypeId} {n : Nat} {f : Nat → Int} (h : Row w g T n f) : Row w.drew g T n f := h

theorem info32 (f : Nat → Int) : (Tryz.prog.info? 32).map (·.size) = some (arr 4 f).size := by rw [arr_size]; kernel_rfl
theorem info34 (f : Nat → Int) : (Tryz.prog.info? 34).map (·.size) = some (arr 4 f).size := by rw [arr_size]; kernel_rfl
theorem info68 (f : Nat → Int) : (Tryz.prog.info? 68).map (·.size) = some (arr 8 f).size := by rw [arr_size]; kernel_rfl

end Go.Proofs.YtkeocdebfgcnnaaGreat.Ord

/- The contracts of plus and minus. -/
namespace Go.Proofs.YtkeocdebfgcnnaaGreat.Ord
open Go.RowKit


set_option maxRecDepth 100000 in
set_option maxHeartbeats 1000000 in
theorem plus_any (f g : Nat → Int) (w : World) (hf : Wds f 4) (hg : Wds g 4) :
    Calls Tryz.prog 63 #[.agg (arr 4 f), .agg (arr 4 g)] w fun r w' => r = .returned (.tuple #[.agg (arr 4 (ps f g)), .int .u64 (pc f g 4)]) ∧ Below w.heap.size w w' := by
  go_enter Tryz.func63, Tryz.ntmps63
  go_wp2
  rw [show #[Value.int IntKind.u64 0, Value.int IntKind.u64 0, Value.int IntKind.u64 0, Value.int IntKind.u64 0] = arr 4 (fun _ => 0) from rfl]
  have R1 : Row (((w.alloc (.cells (arr 4 f) 32)).alloc (.cells (arr 4 g) 32)).alloc (.cells (arr 4 fun _ => 0) 32)) w.heap.size 32 4 f := ((Row.new w 32 4 f).alloc _).alloc _
  have R2 : Row (((w.alloc (.cells (arr 4 f) 32)).alloc (.cells (arr 4 g) 32)).alloc (.cells (arr 4 fun _ => 0) 32)) (w.heap.size + 1) 32 4 g := (Row.new' _ 32 4 _ (by simp)).alloc _
  have R3 : Row (((w.alloc (.cells (arr 4 f) 32)).alloc (.cells (arr 4 g) 32)).alloc (.cells (arr 4 fun _ => 0) 32)) (w.heap.size + 1 + 1) 32 4 (fun _ => 0) := Row.new' _ 32 4 _ (by simp)
  have O : Below w.heap.size w (((w.alloc (.cells (arr 4 f) 32)).alloc (.cells (arr 4 g) 32)).alloc (.cells (arr 4 fun _ => 0) 32)) := (((Below.refl _ _).alloc (Nat.le_refl _) _).alloc (by simp) _).alloc (by simp; omega) _
  generalize (((w.alloc (.cells (arr 4 f) 32)).alloc (.cells (arr 4 g) 32)).alloc (.cells (arr 4 fun _ => 0) 32)) = W at R1 R2 R3 O ⊢
  go_loopw [6, 8] (fun c i wr => ∃ k : Nat, k ≤ 4 ∧ c = .int .u64 (pc f g k) ∧ i = .int .i64 k ∧ Row wr w.heap.size 32 4 (upto k (ps f g) f) ∧ Row wr (w.heap.size + 1) 32 4 g ∧ Row wr (w.heap.size + 1 + 1) 32 4 (fun _ => 0) ∧ Below w.heap.size w wr) (fun _ i _ => 4 - (intOf i).toNat)
  case atStart => exact ⟨0, by omega, rfl, rfl, R1.congr (fun i _ => upto_zero _ _ i), R2, R3, O⟩
  case round =>
    clear R1 R2 R3 O
    obtain ⟨k, hk, rfl, rfl, R1, R2, R3, O⟩ := hrel
    by_cases hlt : k < 4
    · have c := R1.cell (i := k) hlt
      rw [upto_at] at c
      have d := R2.cell hlt
      have e := R1.free
      have i1 : (0 : Int) ≤ (k : Int) := by omega
      have i2 : (k : Int) < 4 := by omega
      have hb := pc_bd hf hg k hk
      have hr := add64_run (f k) (g k) (pc f g k) (hf k hlt).1 (hg k hlt).1 hb.1 hb.2
      have HN := hide (show pc f g (k + 1) = (f k + g k + pc f g k) / 18446744073709551616 from rfl)
      have HM := hide (show ps f g k = (f k + g k + pc f g k) % 18446744073709551616 from rfl)
      go_wp2_with fail
      go_region_with fail
      all_goals
        go_wp2
        exact ⟨⟨k + 1, by omega, by rw [HN.out], by go_num, rowD ((R1.set k ((f k + g k + pc f g k) % 18446744073709551616)).congr (fun i _ => upto_next k _ _ HM.out i)), rowD (R2.other (a := ⟨w.heap.size, k, none⟩) (by simp) _), rowD (R3.other (a := ⟨w.heap.size, k, none⟩) (by simp <;> omega) _), (O.setCell (p := ⟨w.heap.size, k, none⟩) (Nat.le_refl _) _).drew⟩, by simp [intOf]; omega⟩
    · have hk' : k = 4 := by omega
      subst hk'
      replace R1 := R1.congr (f' := ps f g) (fun i hi => upto_end _ _ i hi)
      have RR := hide (R3.setAll (ps f g))
      have OO := hide (below_setCells (g := w.heap.size + 1 + 1) (by omega) (arr 4 (ps f g)).toList 0 O)
      have HX := hide R1
      clear R1 R2 O
      go_wp2_with (first | (refine wpList_load_row rfl 32 _ rfl w.heap.size rfl 32 (arr 4 (ps f g)) (0, 0) _ ?hgplus Tryz.underlying32 rfl (info32 _) ?_) | (refine wpList_store_mid rfl 32 _ _ rfl (w.heap.size + 1 + 1) 0 (arr 4 (ps f g)) rfl rfl ?thplus (info32 _) (arr_one _ _) ?_))
      case hgplus => exact HX.out
      case thplus => rw [arr_size]; exact R3.there
      exact bodyPost_ret (v := .tuple #[.agg (arr 4 (ps f g)), .int .u64 (pc f g 4)]) (results_cell_tmp Tryz.results63 _ _ (w.heap.size + 1 + 1) 32 (arr 4 (ps f g)) (0, 0) _ (.int .u64 (pc f g 4)) rfl rfl RR.out Tryz.underlying32 rfl (info32 _)) rfl ⟨rfl, OO.out⟩

set_option maxRecDepth 100000 in
set_option maxHeartbeats 1000000 in
theorem minus_any (f g : Nat → Int) (w : World) (hf : Wds f 4) (hg : Wds g 4) :
    Calls Tryz.prog 100 #[.agg (arr 4 f), .agg (arr 4 g)] w fun r w' => r = .returned (.tuple #[.agg (arr 4 (ms f g)), .int .u64 (br f g 4)]) ∧ Below w.heap.size w w' := by
  go_enter Tryz.func100, Tryz.ntmps100
  go_wp2
  rw [show #[Value.int IntKind.u64 0, Value.int IntKind.u64 0, Value.int IntKind.u64 0, Value.int IntKind.u64 0] = arr 4 (fun _ => 0) from rfl]
  have R1 : Row (((w.alloc (.cells (arr 4 f) 32)).alloc (.cells (arr 4 g) 32)).alloc (.cells (arr 4 fun _ => 0) 32)) w.heap.size 32 4 f := ((Row.new w 32 4 f).alloc _).alloc _
  have R2 : Row (((w.alloc (.cells (arr 4 f) 32)).alloc (.cells (arr 4 g) 32)).alloc (.cells (arr 4 fun _ => 0) 32)) (w.heap.size + 1) 32 4 g := (Row.new' _ 32 4 _ (by simp)).alloc _
  have R3 : Row (((w.alloc (.cells (arr 4 f) 32)).alloc (.cells (arr 4 g) 32)).alloc (.cells (arr 4 fun _ => 0) 32)) (w.heap.size + 1 + 1) 32 4 (fun _ => 0) := Row.new' _ 32 4 _ (by simp)
  have O : Below w.heap.size w (((w.alloc (.cells (arr 4 f) 32)).alloc (.cells (arr 4 g) 32)).alloc (.cells (arr 4 fun _ => 0) 32)) := (((Below.refl _ _).alloc (Nat.le_refl _) _).alloc (by simp) _).alloc (by simp; omega) _
  generalize (((w.alloc (.cells (arr 4 f) 32)).alloc (.cells (arr 4 g) 32)).alloc (.cells (arr 4 fun _ => 0) 32)) = W at R1 R2 R3 O ⊢
  go_loopw [6, 8] (fun c i wr => ∃ k : Nat, k ≤ 4 ∧ c = .int .u64 (br f g k) ∧ i = .int .i64 k ∧ Row wr w.heap.size 32 4 (upto k (ms f g) f) ∧ Row wr (w.heap.size + 1) 32 4 g ∧ Row wr (w.heap.size + 1 + 1) 32 4 (fun _ => 0) ∧ Below w.heap.size w wr) (fun _ i _ => 4 - (intOf i).toNat)
  case atStart => exact ⟨0, by omega, rfl, rfl, R1.congr (fun i _ => upto_zero _ _ i), R2, R3, O⟩
  case round =>
    clear R1 R2 R3 O
    obtain ⟨k, hk, rfl, rfl, R1, R2, R3, O⟩ := hrel
    by_cases hlt : k < 4
    · have c := R1.cell (i := k) hlt
      rw [upto_at] at c
      have d := R2.cell hlt
      have e := R1.free
      have i1 : (0 : Int) ≤ (k : Int) := by omega
      have i2 : (k : Int) < 4 := by omega
      have hb := br_bd f g k
      have hr := sub64_run (f k) (g k) (br f g k) (hf k hlt) (hg k hlt) hb.1 hb.2
      have HN := hide (show br f g (k + 1) = if f k < g k + br f g k then 1 else 0 from rfl)
      have HM := hide (show ms f g k = (f k - g k - br f g k) % 18446744073709551616 from rfl)
      go_wp2_with fail
      go_region_with fail
      all_goals
        go_wp2
        exact ⟨⟨k + 1, by omega, by rw [HN.out], by go_num, rowD ((R1.set k ((f k - g k - br f g k) % 18446744073709551616)).congr (fun i _ => upto_next k _ _ HM.out i)), rowD (R2.other (a := ⟨w.heap.size, k, none⟩) (by simp) _), rowD (R3.other (a := ⟨w.heap.size, k, none⟩) (by simp <;> omega) _), (O.setCell (p := ⟨w.heap.size, k, none⟩) (Nat.le_refl _) _).drew⟩, by simp [intOf]; omega⟩
    · have hk' : k = 4 := by omega
      subst hk'
      replace R1 := R1.congr (f' := ms f g) (fun i hi => upto_end _ _ i hi)
      have RR := hide (R3.setAll (ms f g))
      have OO := hide (below_setCells (g := w.heap.size + 1 + 1) (by omega) (arr 4 (ms f g)).toList 0 O)
      have HX := hide R1
      clear R1 R2 O
      go_wp2_with (first | (refine wpList_load_row rfl 32 _ rfl w.heap.size rfl 32 (arr 4 (ms f g)) (0, 0) _ ?hgminus Tryz.underlying32 rfl (info32 _) ?_) | (refine wpList_store_mid rfl 32 _ _ rfl (w.heap.size + 1 + 1) 0 (arr 4 (ms f g)) rfl rfl ?thminus (info32 _) (arr_one _ _) ?_))
      case hgminus => exact HX.out
      case thminus => rw [arr_size]; exact R3.there
      exact bodyPost_ret (v := .tuple #[.agg (arr 4 (ms f g)), .int .u64 (br f g 4)]) (results_cell_tmp Tryz.results100 _ _ (w.heap.size + 1 + 1) 32 (arr 4 (ms f g)) (0, 0) _ (.int .u64 (br f g 4)) rfl rfl RR.out Tryz.underlying32 rfl (info32 _)) rfl ⟨rfl, OO.out⟩

end Go.Proofs.YtkeocdebfgcnnaaGreat.Ord

/- The contracts of modulus, once and without: one number without another one, modulo the order. -/
namespace Go.Proofs.YtkeocdebfgcnnaaGreat.Ord
open Go.RowKit

/-- The order of the base point. -/
def Lm : Int := 7237005577332262213973186563042994240857116359379907606001950938285454250989
def Lf : Nat → Int := fun i => [6346243789798364141, 1503914060200516822, 0, 1152921504606846976].getD i 0
theorem Lf_Q : Q Lf 4 = Lm := by decide +kernel
theorem Lf_wds : Wds Lf 4 := fun i hi => by
  rcases (show i = 0 ∨ i = 1 ∨ i = 2 ∨ i = 3 by omega) with rfl | rfl | rfl | rfl <;> exact ⟨by decide, by decide⟩

set_option maxHeartbeats 400000 in
theorem modulus_any (w : World) : Calls Tryz.prog 65 #[] w fun r w' => r = .returned (.agg (arr 4 Lf)) ∧ Below w.heap.size w w' := by
  go_enter Tryz.func65, Tryz.ntmps65
  go_wp2
  exact bodyPost_ret (v := .agg (arr 4 Lf)) (by simp [results, Tryz.results65, go_sem]; rfl) rfl ⟨rfl, (Below.refl _ _).alloc (Nat.le_refl _) _⟩

set_option maxRecDepth 100000 in
set_option maxHeartbeats 1000000 in
theorem once_any (f : Nat → Int) (c : Int) (w : World) (hf : Wds f 4) (hc : c = 0 ∨ c = 1) :
    Calls Tryz.prog 101 #[.agg (arr 4 f), .int .u64 c] w fun r w' => r = .returned (.agg (arr 4 fun i => f i * c)) ∧ Below w.heap.size w w' := by
  go_enter Tryz.func101, Tryz.ntmps101
  go_wp2
  rw [show #[Value.int IntKind.u64 0, Value.int IntKind.u64 0, Value.int IntKind.u64 0, Value.int IntKind.u64 0] = arr 4 (fun _ => 0) from rfl]
  have R1 : Row ((w.alloc (.cells (arr 4 f) 32)).alloc (.cells (arr 4 fun _ => 0) 32)) w.heap.size 32 4 f := (Row.new w 32 4 f).alloc _
  have R3 : Row ((w.alloc (.cells (arr 4 f) 32)).alloc (.cells (arr 4 fun _ => 0) 32)) (w.heap.size + 1) 32 4 (fun _ => 0) := Row.new' _ 32 4 _ (by simp)
  have O : Below w.heap.size w ((w.alloc (.cells (arr 4 f) 32)).alloc (.cells (arr 4 fun _ => 0) 32)) := ((Below.refl _ _).alloc (Nat.le_refl _) _).alloc (by simp) _
  generalize ((w.alloc (.cells (arr 4 f) 32)).alloc (.cells (arr 4 fun _ => 0) 32)) = W at R1 R3 O ⊢
  go_loopw [6] (fun i wr => ∃ k : Nat, k ≤ 4 ∧ i = .int .i64 k ∧ Row wr w.heap.size 32 4 (upto k (fun i => f i * c) f) ∧ Row wr (w.heap.size + 1) 32 4 (fun _ => 0) ∧ Below w.heap.size w wr) (fun i _ => 4 - (intOf i).toNat)
  case atStart => exact ⟨0, by omega, rfl, R1.congr (fun i _ => upto_zero _ _ i), R3, O⟩
  case round =>
    clear R1 R3 O
    obtain ⟨k, hk, rfl, R1, R3, O⟩ := hrel
    by_cases hlt : k < 4
    · have cc := R1.cell (i := k) hlt
      rw [upto_at] at cc
      have e := R1.free k
      have i1 : (0 : Int) ≤ (k : Int) := by omega
      have i2 : (k : Int) < 4 := by omega
      obtain ⟨f0, f1⟩ := hf k hlt
      have hw : IntKind.u64.wrap (f k * c) = f k * c := by
        rcases hc with rfl | rfl
        · rw [Int.mul_zero]; decide
        · rw [Int.mul_one]; exact wrap64u ⟨f0, f1⟩
      have m0 : 0 ≤ f k * c := by rcases hc with rfl | rfl <;> omega
      have m1 : f k * c < 18446744073709551616 := by rcases hc with rfl | rfl <;> omega
      have RR := hide ((R1.set k (f k * c)).congr (fun i _ => upto_next k (fun i => f i * c) f rfl i))
      have R3' := hide (R3.other (a := ⟨w.heap.size, k, none⟩) (by simp) (.int .u64 (f k * c)))
      have O' := hide (O.setCell (p := ⟨w.heap.size, k, none⟩) (Nat.le_refl _) (.int .u64 (f k * c)))
      clear R1 R3 O
      go_wp2
      go_roundw
      case rel => exact ⟨k + 1, by omega, by go_num, RR.out, R3'.out, O'.out⟩
      case measure => simp [intOf]; omega
    · have hk' : k = 4 := by omega
      subst hk'
      replace R1 := R1.congr (f' := fun i => f i * c) (fun i hi => upto_end _ _ i hi)
      have RR := hide (R3.setAll (fun i => f i * c))
      have OO := hide (below_setCells (g := w.heap.size + 1) (by omega) (arr 4 (fun i => f i * c)).toList 0 O)
      have HX := hide R1
      clear R1 O
      go_wp2_with (first | (refine wpList_load_row rfl 32 _ rfl w.heap.size rfl 32 (arr 4 (fun i => f i * c)) (0, 0) _ ?hgo Tryz.underlying32 rfl (info32 _) ?_) | (refine wpList_store_mid rfl 32 _ _ rfl (w.heap.size + 1) 0 (arr 4 (fun i => f i * c)) rfl rfl ?tho (info32 _) (arr_one _ _) ?_))
      case hgo => exact HX.out
      case tho => rw [arr_size]; exact R3.there
      exact bodyPost_ret (v := .agg (arr 4 fun i => f i * c)) (results_cell_row Tryz.results101 _ _ (w.heap.size + 1) 32 (arr 4 (fun i => f i * c)) (0, 0) _ rfl RR.out Tryz.underlying32 rfl (info32 _)) rfl ⟨rfl, OO.out⟩

theorem Q_mul (f : Nat → Int) (c : Int) : ∀ n, Q (fun i => f i * c) n = Q f n * c
  | 0 => by simp [Q]
  | n + 1 => by
    simp only [Q]
    rw [Q_mul f c n, Int.add_mul, Int.mul_assoc, Int.mul_assoc, Int.mul_comm c]

theorem P256 : (18446744073709551616 : Int) ^ 4 = 115792089237316195423570985008687907853269984665640564039457584007913129639936 := by decide

theorem wval {X Y R T b c P L : Int} (hb : b = 0 ∨ b = 1) (hc : c = 0 ∨ c = 1) (hL : L < P) (e1 : R - b * P = X - Y) (e2 : T + c * P = R + L * b) (_r0 : 0 ≤ R) (r1 : R < P) (t0 : 0 ≤ T) (t1 : T < P) (h0 : - L ≤ X - Y) (h1 : X - Y < L) : T = (X - Y) % L := by
  rcases hb with rfl | rfl
  · rcases hc with rfl | rfl
    · simp only [Int.zero_mul, Int.mul_zero] at e1 e2
      rw [Int.emod_eq_of_lt (by omega) h1]
      omega
    · simp only [Int.zero_mul, Int.mul_zero, Int.one_mul] at e1 e2
      omega
  · rcases hc with rfl | rfl
    · simp only [Int.zero_mul, Int.mul_one, Int.one_mul] at e1 e2
      omega
    · simp only [Int.mul_one, Int.one_mul] at e1 e2
      have e : (X - Y) % L = (X - Y + L) % L := by rw [Int.add_emod_right]
      rw [e, Int.emod_eq_of_lt (by omega) (by omega)]
      omega

theorem Lm_P : Lm < 18446744073709551616 ^ 4 := by decide
theorem Lm_pos : 0 < Lm := by decide
theorem lmod (X : Int) : 0 ≤ X % Lm ∧ X % Lm < Lm := ⟨Int.emod_nonneg _ (by decide), Int.emod_lt_of_pos _ Lm_pos⟩
theorem dQ {X : Int} (h : 0 ≤ X ∧ X < Lm) : Q (d64 X) 4 = X := by
  have := Lm_P
  rw [d64_Q _ h.1, Int.emod_eq_of_lt h.1 (by omega)]

theorem without_val {f g : Nat → Int} (hf : Wds f 4) (hg : Wds g 4) (h0 : - Lm ≤ Q f 4 - Q g 4) (h1 : Q f 4 - Q g 4 < Lm) :
    arr 4 (ps (ms f g) (fun i => Lf i * br f g 4)) = arr 4 (d64 ((Q f 4 - Q g 4) % Lm)) := by
  have hb := br_bd f g 4
  have hb2 : br f g 4 = 0 ∨ br f g 4 = 1 := by omega
  have wl : Wds (fun i => Lf i * br f g 4) 4 := fun i hi => by
    have h := Lf_wds i hi
    show W64 (Lf i * br f g 4)
    rcases hb2 with e | e
    · rw [e, Int.mul_zero]; exact ⟨by decide, by decide⟩
    · rw [e, Int.mul_one]; exact h
  have e1 := ms_Q hf hg 4 (by omega)
  have e2 := ps_Q (ms f g) (fun i => Lf i * br f g 4) 4
  have e3 := pc_bd (ms_wds f g 4) wl 4 (by omega)
  have b1 := Q_bd (ms_wds f g 4)
  have b2 := Q_bd (ps_wds (ms f g) (fun i => Lf i * br f g 4) 4)
  rw [Q_mul, Lf_Q] at e2
  refine arr_congr (Q_inj (ps_wds _ _ 4) (d64_wds _ 4) ?_)
  rw [dQ (lmod _)]
  exact wval hb2 (by omega) Lm_P e1 e2 b1.1 b1.2 b2.1 b2.2 h0 h1

end Go.Proofs.YtkeocdebfgcnnaaGreat.Ord

/- The contract of without. -/
namespace Go.Proofs.YtkeocdebfgcnnaaGreat.Ord
open Go.RowKit

theorem wpList_build {P : Program} {ops : Array Oper} {rest : List Oper} {o : Oper} {a : Act} {w : World} {Q : Exit → Act → World → Prop} (hg : o.guard = none) (ty : TypeId) (parts : Array (Nat × Operand)) (_ho : o.op = .build ty parts) (cs : Array Value)
    (hrun : (execOp a.eval o).run P w = .ok (.value (.agg cs)) w) (h : wpList P ops Q rest (a.put o.dst (.agg cs)) w) : wpList P ops Q (o :: rest) a w :=
  wpList_plain hg fun K hK => by
    unfold Oper.wp
    rw [hrun]
    exact hK _ _ h

set_option maxRecDepth 100000 in
set_option maxHeartbeats 2000000 in
theorem without_gen (f g r l t : Nat → Int) (b c : Int) (w : World)
    (H0 : ∀ w, Calls Tryz.prog 100 #[.agg (arr 4 f), .agg (arr 4 g)] w fun x w' => x = .returned (.tuple #[.agg (arr 4 r), .int .u64 b]) ∧ Below w.heap.size w w')
    (H2 : ∀ w, Calls Tryz.prog 101 #[.agg (arr 4 Lf), .int .u64 b] w fun x w' => x = .returned (.agg (arr 4 l)) ∧ Below w.heap.size w w')
    (H3 : ∀ w, Calls Tryz.prog 63 #[.agg (arr 4 r), .agg (arr 4 l)] w fun x w' => x = .returned (.tuple #[.agg (arr 4 t), .int .u64 c]) ∧ Below w.heap.size w w') :
    Calls Tryz.prog 64 #[.agg (arr 4 f), .agg (arr 4 g)] w fun x w' => x = .returned (.agg (arr 4 t)) ∧ Below w.heap.size w w' := by
  have C0 := hide H0
  have C1 := hide modulus_any
  have C2 := hide H2
  have C3 := hide H3
  clear H0 H2 H3
  have R1 : Row (((w.alloc (.cells (arr 4 f) 32)).alloc (.cells (arr 4 g) 32)).alloc (.cells (arr 4 fun _ => 0) 34)) w.heap.size 32 4 f := ((Row.new w 32 4 f).alloc _).alloc _
  have R2 : Row (((w.alloc (.cells (arr 4 f) 32)).alloc (.cells (arr 4 g) 32)).alloc (.cells (arr 4 fun _ => 0) 34)) (w.heap.size + 1) 32 4 g := (Row.new' _ 32 4 _ (by simp)).alloc _
  have R3 : Row (((w.alloc (.cells (arr 4 f) 32)).alloc (.cells (arr 4 g) 32)).alloc (.cells (arr 4 fun _ => 0) 34)) (w.heap.size + 1 + 1) 34 4 (fun _ => 0) := Row.new' _ 34 4 _ (by simp)
  have O : Below w.heap.size w (((w.alloc (.cells (arr 4 f) 32)).alloc (.cells (arr 4 g) 32)).alloc (.cells (arr 4 fun _ => 0) 34)) := (((Below.refl _ _).alloc (Nat.le_refl _) _).alloc (by simp) _).alloc (by simp; omega) _
  have HR := hide (And.intro R1 (And.intro R2 (And.intro R3 O)))
  clear R1 R2 R3 O
  go_enter Tryz.func64, Tryz.ntmps64
  go_wp2_with (first | (refine wpList_load_row rfl 32 _ rfl w.heap.size rfl 32 (arr 4 f) (0, 0) _ HR.out.1 Tryz.underlying32 rfl (info32 _) ?_) | (refine wpList_load_row rfl 32 _ rfl (w.heap.size + 1) rfl 32 (arr 4 g) (0, 0) _ HR.out.2.1 Tryz.underlying32 rfl (info32 _) ?_))
  rw [show #[Value.int IntKind.u64 0, Value.int IntKind.u64 0, Value.int IntKind.u64 0, Value.int IntKind.u64 0] = arr 4 (fun _ => 0) from rfl]
  obtain ⟨R1, R2, R3, O⟩ := HR.out
  clear HR R1 R2
  generalize (((w.alloc (.cells (arr 4 f) 32)).alloc (.cells (arr 4 g) 32)).alloc (.cells (arr 4 fun _ => 0) 34)) = W at R3 O ⊢
  refine (C0.out _).mono ?_
  rintro _ w1 ⟨rfl, hb1⟩
  replace R3 := R3.keep hb1
  replace O := O.trans (hb1.mono O.size)
  clear hb1
  have RC : Row (w1.alloc (.cells #[Value.int IntKind.u64 0, Value.int IntKind.u64 0, Value.int IntKind.u64 0, Value.int IntKind.u64 0] 32)) w1.heap.size 32 4 (fun _ => 0) := Row.new w1 32 4 (fun _ => 0)
  have gl := R3.lt
  have RR := hide (RC.setAll r)
  have BB := below_setCells (g := w1.heap.size) (Nat.le_refl _) (arr 4 r).toList 0 (new_below w1 (.cells #[Value.int IntKind.u64 0, Value.int IntKind.u64 0, Value.int IntKind.u64 0, Value.int IntKind.u64 0] 32))
  have R3' := hide (R3.keep BB)
  have O' := hide (O.trans (BB.mono O.size))
  clear R3 O BB
  go_wp2_with (refine wpList_store_mid rfl 32 _ _ rfl w1.heap.size 0 (arr 4 r) rfl rfl ?thr (info32 _) (arr_one _ _) ?_)
  case thr => rw [arr_size]; exact RC.there
  have R3 := R3'.out
  have O := O'.out
  replace RC := RR.out
  clear R3' O' RR
  generalize w1.heap.size = gc at *
  generalize (w1.alloc (.cells #[Value.int IntKind.u64 0, Value.int IntKind.u64 0, Value.int IntKind.u64 0, Value.int IntKind.u64 0] 32)).setCells gc 0 (arr 4 r).toList = W2 at *
  refine region_cut (fun a0 a' w' => a' = (((((((a0.put (some 14) (.agg (arr 4 r))).put (some 15) (.agg (arr 4 Lf))).put (some 16) (.int .u64 b)).put (some 17) (.agg (arr 4 l))).put (some 18) (.tuple #[.agg (arr 4 t), .int .u64 c])).put (some 13) (.tuple #[.agg (arr 4 t), .int .u64 c])).put (some 19) (.agg (arr 4 t))).put (some 20) (.int .u64 c) ∧ Row w' gc 32 4 t ∧ Row w' (w.heap.size + 1 + 1) 34 4 (fun _ => 0) ∧ Below w.heap.size w w') (by kernel_rfl) ?_ ?_
  · clear RC R3 O
    rintro _ w8 ⟨rfl, RC, R3, O⟩
    have RR := hide (R3.setAll t)
    have OO := hide (below_setCells (g := w.heap.size + 1 + 1) (by omega) (arr 4 t).toList 0 O)
    have HX := hide RC
    clear RC O
    go_simp
    go_wp2_with (first | (refine wpList_load_row rfl 32 _ rfl gc rfl 32 (arr 4 t) (0, 0) _ ?hgt Tryz.underlying32 rfl (info32 _) ?_) | (refine wpList_build rfl 34 _ rfl (arr 4 t) (by kernel_rfl) ?_) | (refine wpList_store_mid rfl 34 _ _ rfl (w.heap.size + 1 + 1) 0 (arr 4 t) rfl rfl ?tht (info34 _) (arr_one _ _) ?_))
    case hgt => exact HX.out
    case tht => rw [arr_size]; exact R3.there
    exact bodyPost_ret (v := .agg (arr 4 t)) (results_cell_row Tryz.results64 _ _ (w.heap.size + 1 + 1) 34 (arr 4 t) (0, 0) _ rfl RR.out Tryz.underlying34 rfl (info34 _)) rfl ⟨rfl, OO.out⟩
  · intro hrest
    replace RC := rowD RC
    replace R3 := rowD R3
    replace O := O.drew
    generalize W2.drew = W0 at *
    refine wpAny_take (i := 2) (v := .int .u64 b) rfl (by kernel_rfl) (by kernel_rfl) (by kernel_rfl) (fun _ _ _ h => h) (Or.inl ⟨by rfl, fun _ => by kernel_rfl⟩) ?_
    refine wpAny_ready (rs := [0, 1]) (by kernel_rfl) (by simp) ?_
    refine ready_load rfl rfl 32 _ rfl gc (by kernel_rfl) 32 (arr 4 r) (0, 0) _ RC Tryz.underlying32 rfl (info32 _) ?_ ?_
    · skip
      refine wpAny_ready (rs := [1]) (by kernel_rfl) (by simp) ?_
      refine ready_call 65 #[] rfl rfl (by kernel_rfl) ?_ ?_
      · refine (C1.out _).mono ?_
        rintro _ w102 ⟨rfl, hb102⟩
        refine ⟨_, rfl, ?_⟩
        replace R3 := R3.keep hb102
        replace RC := RC.keep hb102
        replace O := O.trans (hb102.mono O.size)
        clear hb102
        refine wpAny_ready (rs := [3]) (by kernel_rfl) (by simp) ?_
        refine ready_call 101 #[.agg (arr 4 Lf), .int .u64 b] rfl rfl (by kernel_rfl) ?_ ?_
        · refine (C2.out _).mono ?_
          rintro _ w103 ⟨rfl, hb103⟩
          refine ⟨_, rfl, ?_⟩
          replace R3 := R3.keep hb103
          replace RC := RC.keep hb103
          replace O := O.trans (hb103.mono O.size)
          clear hb103
          refine wpAny_ready (rs := [4]) (by kernel_rfl) (by simp) ?_
          refine ready_call 63 #[.agg (arr 4 r), .agg (arr 4 l)] rfl rfl (by kernel_rfl) ?_ ?_
          · refine (C3.out _).mono ?_
            rintro _ w104 ⟨rfl, hb104⟩
            refine ⟨_, rfl, ?_⟩
            replace R3 := R3.keep hb104
            replace RC := RC.keep hb104
            replace O := O.trans (hb104.mono O.size)
            clear hb104
            refine wpAny_take (i := 5) (v := .tuple #[.agg (arr 4 t), .int .u64 c]) rfl (by kernel_rfl) (by kernel_rfl) (by kernel_rfl) (fun _ _ _ h => h) (Or.inl ⟨by rfl, fun _ => by kernel_rfl⟩) ?_
            refine wpAny_take (i := 6) (v := .agg (arr 4 t)) rfl (by kernel_rfl) (by kernel_rfl) (by kernel_rfl) (fun _ _ _ h => h) (Or.inl ⟨by rfl, fun _ => by kernel_rfl⟩) ?_
            refine wpAny_take (i := 7) (v := .int .u64 c) rfl (by kernel_rfl) (by kernel_rfl) (by kernel_rfl) (fun _ _ _ h => h) (Or.inl ⟨by rfl, fun _ => by kernel_rfl⟩) ?_
            refine wpAny_ready (rs := [8]) (by kernel_rfl) (by simp) ?_
            refine ready_store rfl rfl 32 _ _ rfl gc 0 (arr 4 t) (by kernel_rfl) (by kernel_rfl) (by rw [arr_size]; exact RC.there) (info32 _) (arr_one _ _) ?_ ?_
            · skip
              exact wpAny_done (by kernel_rfl) (hrest _ _ ⟨by kernel_rfl, RC.setAll _, R3.setOther (by omega) _ _, below_setCells (by omega) _ _ O⟩) _
            exact AllReady.nil
          exact AllReady.nil
        exact AllReady.nil
      exact AllReady.nil
    refine ready_call 65 #[] rfl rfl (by kernel_rfl) ?_ ?_
    · refine (C1.out _).mono ?_
      rintro _ w106 ⟨rfl, hb106⟩
      refine ⟨_, rfl, ?_⟩
      replace R3 := R3.keep hb106
      replace RC := RC.keep hb106
      replace O := O.trans (hb106.mono O.size)
      clear hb106
      refine wpAny_ready (rs := [0, 3]) (by kernel_rfl) (by simp) ?_
      refine ready_load rfl rfl 32 _ rfl gc (by kernel_rfl) 32 (arr 4 r) (0, 0) _ RC Tryz.underlying32 rfl (info32 _) ?_ ?_
      · skip
        refine wpAny_ready (rs := [3]) (by kernel_rfl) (by simp) ?_
        refine ready_call 101 #[.agg (arr 4 Lf), .int .u64 b] rfl rfl (by kernel_rfl) ?_ ?_
        · refine (C2.out _).mono ?_
          rintro _ w108 ⟨rfl, hb108⟩
          refine ⟨_, rfl, ?_⟩
          replace R3 := R3.keep hb108
          replace RC := RC.keep hb108
          replace O := O.trans (hb108.mono O.size)
          clear hb108
          refine wpAny_ready (rs := [4]) (by kernel_rfl) (by simp) ?_
          refine ready_call 63 #[.agg (arr 4 r), .agg (arr 4 l)] rfl rfl (by kernel_rfl) ?_ ?_
          · refine (C3.out _).mono ?_
            rintro _ w109 ⟨rfl, hb109⟩
            refine ⟨_, rfl, ?_⟩
            replace R3 := R3.keep hb109
            replace RC := RC.keep hb109
            replace O := O.trans (hb109.mono O.size)
            clear hb109
            refine wpAny_take (i := 5) (v := .tuple #[.agg (arr 4 t), .int .u64 c]) rfl (by kernel_rfl) (by kernel_rfl) (by kernel_rfl) (fun _ _ _ h => h) (Or.inl ⟨by rfl, fun _ => by kernel_rfl⟩) ?_
            refine wpAny_take (i := 6) (v := .agg (arr 4 t)) rfl (by kernel_rfl) (by kernel_rfl) (by kernel_rfl) (fun _ _ _ h => h) (Or.inl ⟨by rfl, fun _ => by kernel_rfl⟩) ?_
            refine wpAny_take (i := 7) (v := .int .u64 c) rfl (by kernel_rfl) (by kernel_rfl) (by kernel_rfl) (fun _ _ _ h => h) (Or.inl ⟨by rfl, fun _ => by kernel_rfl⟩) ?_
            refine wpAny_ready (rs := [8]) (by kernel_rfl) (by simp) ?_
            refine ready_store rfl rfl 32 _ _ rfl gc 0 (arr 4 t) (by kernel_rfl) (by kernel_rfl) (by rw [arr_size]; exact RC.there) (info32 _) (arr_one _ _) ?_ ?_
            · skip
              exact wpAny_done (by kernel_rfl) (hrest _ _ ⟨by kernel_rfl, RC.setAll _, R3.setOther (by omega) _ _, below_setCells (by omega) _ _ O⟩) _
            exact AllReady.nil
          exact AllReady.nil
        exact AllReady.nil
      refine ready_call 101 #[.agg (arr 4 Lf), .int .u64 b] rfl rfl (by kernel_rfl) ?_ ?_
      · refine (C2.out _).mono ?_
        rintro _ w111 ⟨rfl, hb111⟩
        refine ⟨_, rfl, ?_⟩
        replace R3 := R3.keep hb111
        replace RC := RC.keep hb111
        replace O := O.trans (hb111.mono O.size)
        clear hb111
        refine wpAny_ready (rs := [0]) (by kernel_rfl) (by simp) ?_
        refine ready_load rfl rfl 32 _ rfl gc (by kernel_rfl) 32 (arr 4 r) (0, 0) _ RC Tryz.underlying32 rfl (info32 _) ?_ ?_
        · skip
          refine wpAny_ready (rs := [4]) (by kernel_rfl) (by simp) ?_
          refine ready_call 63 #[.agg (arr 4 r), .agg (arr 4 l)] rfl rfl (by kernel_rfl) ?_ ?_
          · refine (C3.out _).mono ?_
            rintro _ w113 ⟨rfl, hb113⟩
            refine ⟨_, rfl, ?_⟩
            replace R3 := R3.keep hb113
            replace RC := RC.keep hb113
            replace O := O.trans (hb113.mono O.size)
            clear hb113
            refine wpAny_take (i := 5) (v := .tuple #[.agg (arr 4 t), .int .u64 c]) rfl (by kernel_rfl) (by kernel_rfl) (by kernel_rfl) (fun _ _ _ h => h) (Or.inl ⟨by rfl, fun _ => by kernel_rfl⟩) ?_
            refine wpAny_take (i := 6) (v := .agg (arr 4 t)) rfl (by kernel_rfl) (by kernel_rfl) (by kernel_rfl) (fun _ _ _ h => h) (Or.inl ⟨by rfl, fun _ => by kernel_rfl⟩) ?_
            refine wpAny_take (i := 7) (v := .int .u64 c) rfl (by kernel_rfl) (by kernel_rfl) (by kernel_rfl) (fun _ _ _ h => h) (Or.inl ⟨by rfl, fun _ => by kernel_rfl⟩) ?_
            refine wpAny_ready (rs := [8]) (by kernel_rfl) (by simp) ?_
            refine ready_store rfl rfl 32 _ _ rfl gc 0 (arr 4 t) (by kernel_rfl) (by kernel_rfl) (by rw [arr_size]; exact RC.there) (info32 _) (arr_one _ _) ?_ ?_
            · skip
              exact wpAny_done (by kernel_rfl) (hrest _ _ ⟨by kernel_rfl, RC.setAll _, R3.setOther (by omega) _ _, below_setCells (by omega) _ _ O⟩) _
            exact AllReady.nil
          exact AllReady.nil
        exact AllReady.nil
      exact AllReady.nil
    exact AllReady.nil

end Go.Proofs.YtkeocdebfgcnnaaGreat.Ord

/- The contracts of the scalars' Add and Neg. -/
namespace Go.Proofs.YtkeocdebfgcnnaaGreat.Ord
open Go.RowKit

theorem without_any (f g : Nat → Int) (w : World) (hf : Wds f 4) (hg : Wds g 4) (h0 : - Lm ≤ Q f 4 - Q g 4) (h1 : Q f 4 - Q g 4 < Lm) :
    Calls Tryz.prog 64 #[.agg (arr 4 f), .agg (arr 4 g)] w fun x w' => x = .returned (.agg (arr 4 (d64 ((Q f 4 - Q g 4) % Lm)))) ∧ Below w.heap.size w w' := by
  have hb := br_bd f g 4
  have hb2 : br f g 4 = 0 ∨ br f g 4 = 1 := by omega
  have wl : Wds (fun i => Lf i * br f g 4) 4 := fun i hi => by
    have h := Lf_wds i hi
    show W64 (Lf i * br f g 4)
    rcases hb2 with e | e
    · rw [e, Int.mul_zero]; exact ⟨by decide, by decide⟩
    · rw [e, Int.mul_one]; exact h
  have := without_gen f g (ms f g) (fun i => Lf i * br f g 4) (ps (ms f g) (fun i => Lf i * br f g 4)) (br f g 4) (pc (ms f g) (fun i => Lf i * br f g 4) 4) w
    (fun w => minus_any f g w hf hg) (fun w => once_any Lf _ w Lf_wds hb2) (fun w => plus_any _ _ w (ms_wds f g 4) wl)
  rwa [without_val hf hg h0 h1] at this

set_option maxRecDepth 100000 in
set_option maxHeartbeats 2000000 in
theorem add_gen (M N V c : Int) (r : Nat → Int) (w : World)
    (H0 : ∀ w, Calls Tryz.prog 63 #[.agg (arr 4 (d64 M)), .agg (arr 4 (d64 N))] w fun x w' => x = .returned (.tuple #[.agg (arr 4 r), .int .u64 c]) ∧ Below w.heap.size w w')
    (H2 : ∀ w, Calls Tryz.prog 64 #[.agg (arr 4 r), .agg (arr 4 Lf)] w fun x w' => x = .returned (.agg (arr 4 (d64 V))) ∧ Below w.heap.size w w') :
    Calls Tryz.prog 21 #[.agg (arr 4 (d64 M)), .agg (arr 4 (d64 N))] w fun x w' => x = .returned (.agg (arr 4 (d64 V))) ∧ Below w.heap.size w w' := by
  have C0 := hide H0
  have C1 := hide modulus_any
  have C2 := hide H2
  clear H0 H2
  have R1 : Row (((w.alloc (.cells (arr 4 (d64 M)) 34)).alloc (.cells (arr 4 (d64 N)) 34)).alloc (.cells (arr 4 fun _ => 0) 34)) w.heap.size 34 4 (d64 M) := ((Row.new w 34 4 _).alloc _).alloc _
  have R2 : Row (((w.alloc (.cells (arr 4 (d64 M)) 34)).alloc (.cells (arr 4 (d64 N)) 34)).alloc (.cells (arr 4 fun _ => 0) 34)) (w.heap.size + 1) 34 4 (d64 N) := (Row.new' _ 34 4 _ (by simp)).alloc _
  have R3 : Row (((w.alloc (.cells (arr 4 (d64 M)) 34)).alloc (.cells (arr 4 (d64 N)) 34)).alloc (.cells (arr 4 fun _ => 0) 34)) (w.heap.size + 1 + 1) 34 4 (fun _ => 0) := Row.new' _ 34 4 _ (by simp)
  have O : Below w.heap.size w (((w.alloc (.cells (arr 4 (d64 M)) 34)).alloc (.cells (arr 4 (d64 N)) 34)).alloc (.cells (arr 4 fun _ => 0) 34)) := (((Below.refl _ _).alloc (Nat.le_refl _) _).alloc (by simp) _).alloc (by simp; omega) _
  have HR := hide (And.intro R1 (And.intro R2 (And.intro R3 O)))
  clear R1 R2 R3 O
  go_enter Tryz.func21, Tryz.ntmps21
  go_wp2_with (first | (refine wpList_load_row rfl 32 _ rfl w.heap.size rfl 34 (arr 4 (d64 M)) (0, 0) _ HR.out.1 Tryz.underlying32 rfl (info32 _) ?_) | (refine wpList_load_row rfl 32 _ rfl (w.heap.size + 1) rfl 34 (arr 4 (d64 N)) (0, 0) _ HR.out.2.1 Tryz.underlying32 rfl (info32 _) ?_))
  rw [show #[Value.int IntKind.u64 0, Value.int IntKind.u64 0, Value.int IntKind.u64 0, Value.int IntKind.u64 0] = arr 4 (fun _ => 0) from rfl]
  obtain ⟨R1, R2, R3, O⟩ := HR.out
  clear HR R1 R2
  generalize (((w.alloc (.cells (arr 4 (d64 M)) 34)).alloc (.cells (arr 4 (d64 N)) 34)).alloc (.cells (arr 4 fun _ => 0) 34)) = W at R3 O ⊢
  refine (C0.out _).mono ?_
  rintro _ w1 ⟨rfl, hb1⟩
  replace R3 := R3.keep hb1
  replace O := O.trans (hb1.mono O.size)
  clear hb1
  have RC : Row (w1.alloc (.cells #[Value.int IntKind.u64 0, Value.int IntKind.u64 0, Value.int IntKind.u64 0, Value.int IntKind.u64 0] 32)) w1.heap.size 32 4 (fun _ => 0) := Row.new w1 32 4 (fun _ => 0)
  have gl := R3.lt
  have RR := hide (RC.setAll r)
  have BB := below_setCells (g := w1.heap.size) (Nat.le_refl _) (arr 4 r).toList 0 (new_below w1 (.cells #[Value.int IntKind.u64 0, Value.int IntKind.u64 0, Value.int IntKind.u64 0, Value.int IntKind.u64 0] 32))
  have R3' := hide (R3.keep BB)
  have O' := hide (O.trans (BB.mono O.size))
  clear R3 O BB
  go_wp2_with (refine wpList_store_mid rfl 32 _ _ rfl w1.heap.size 0 (arr 4 r) rfl rfl ?thr (info32 _) (arr_one _ _) ?_)
  case thr => rw [arr_size]; exact RC.there
  have R3 := R3'.out
  have O := O'.out
  replace RC := RR.out
  clear R3' O' RR
  generalize w1.heap.size = gc at *
  generalize (w1.alloc (.cells #[Value.int IntKind.u64 0, Value.int IntKind.u64 0, Value.int IntKind.u64 0, Value.int IntKind.u64 0] 32)).setCells gc 0 (arr 4 r).toList = W2 at *
  refine region_cut (fun a0 a' w' => a' = ((a0.put (some 15) (.agg (arr 4 r))).put (some 16) (.agg (arr 4 Lf))).put (some 17) (.agg (arr 4 (d64 V))) ∧ Row w' (w.heap.size + 1 + 1) 34 4 (d64 V) ∧ Below w.heap.size w w') (by kernel_rfl) ?_ ?_
  · clear RC R3 O
    rintro _ w8 ⟨rfl, R3, O⟩
    go_simp
    go_wp2
    exact bodyPost_ret (v := .agg (arr 4 (d64 V))) (results_cell_row Tryz.results21 _ _ (w.heap.size + 1 + 1) 34 (arr 4 (d64 V)) (0, 0) _ rfl R3 Tryz.underlying34 rfl (info34 _)) rfl ⟨rfl, O⟩
  · intro hrest
    replace RC := rowD RC
    replace R3 := rowD R3
    replace O := O.drew
    generalize W2.drew = W0 at *
    refine wpAny_ready (rs := [0, 1]) (by kernel_rfl) (by simp) ?_
    refine ready_load rfl rfl 32 _ rfl gc (by kernel_rfl) 32 (arr 4 r) (0, 0) _ RC Tryz.underlying32 rfl (info32 _) ?_ ?_
    · skip
      refine wpAny_ready (rs := [1]) (by kernel_rfl) (by simp) ?_
      refine ready_call 65 #[] rfl rfl (by kernel_rfl) ?_ ?_
      · refine (C1.out _).mono ?_
        rintro _ w102 ⟨rfl, hb102⟩
        refine ⟨_, rfl, ?_⟩
        replace R3 := R3.keep hb102
        replace RC := RC.keep hb102
        replace O := O.trans (hb102.mono O.size)
        clear hb102
        refine wpAny_ready (rs := [2]) (by kernel_rfl) (by simp) ?_
        refine ready_call 64 #[.agg (arr 4 r), .agg (arr 4 Lf)] rfl rfl (by kernel_rfl) ?_ ?_
        · refine (C2.out _).mono ?_
          rintro _ w103 ⟨rfl, hb103⟩
          refine ⟨_, rfl, ?_⟩
          replace R3 := R3.keep hb103
          replace RC := RC.keep hb103
          replace O := O.trans (hb103.mono O.size)
          clear hb103
          refine wpAny_ready (rs := [3]) (by kernel_rfl) (by simp) ?_
          refine ready_store rfl rfl 34 _ _ rfl (w.heap.size + 1 + 1) 0 (arr 4 (d64 V)) (by kernel_rfl) (by kernel_rfl) (by rw [arr_size]; exact R3.there) (info34 _) (arr_one _ _) ?_ ?_
          · skip
            exact wpAny_done (by kernel_rfl) (hrest _ _ ⟨by kernel_rfl, R3.setAll _, below_setCells (by omega) _ _ O⟩) _
          exact AllReady.nil
        exact AllReady.nil
      exact AllReady.nil
    refine ready_call 65 #[] rfl rfl (by kernel_rfl) ?_ ?_
    · refine (C1.out _).mono ?_
      rintro _ w105 ⟨rfl, hb105⟩
      refine ⟨_, rfl, ?_⟩
      replace R3 := R3.keep hb105
      replace RC := RC.keep hb105
      replace O := O.trans (hb105.mono O.size)
      clear hb105
      refine wpAny_ready (rs := [0]) (by kernel_rfl) (by simp) ?_
      refine ready_load rfl rfl 32 _ rfl gc (by kernel_rfl) 32 (arr 4 r) (0, 0) _ RC Tryz.underlying32 rfl (info32 _) ?_ ?_
      · skip
        refine wpAny_ready (rs := [2]) (by kernel_rfl) (by simp) ?_
        refine ready_call 64 #[.agg (arr 4 r), .agg (arr 4 Lf)] rfl rfl (by kernel_rfl) ?_ ?_
        · refine (C2.out _).mono ?_
          rintro _ w107 ⟨rfl, hb107⟩
          refine ⟨_, rfl, ?_⟩
          replace R3 := R3.keep hb107
          replace RC := RC.keep hb107
          replace O := O.trans (hb107.mono O.size)
          clear hb107
          refine wpAny_ready (rs := [3]) (by kernel_rfl) (by simp) ?_
          refine ready_store rfl rfl 34 _ _ rfl (w.heap.size + 1 + 1) 0 (arr 4 (d64 V)) (by kernel_rfl) (by kernel_rfl) (by rw [arr_size]; exact R3.there) (info34 _) (arr_one _ _) ?_ ?_
          · skip
            exact wpAny_done (by kernel_rfl) (hrest _ _ ⟨by kernel_rfl, R3.setAll _, below_setCells (by omega) _ _ O⟩) _
          exact AllReady.nil
        exact AllReady.nil
      exact AllReady.nil
    exact AllReady.nil

theorem add_any (M N : Int) (w : World) (hM : 0 ≤ M ∧ M < Lm) (hN : 0 ≤ N ∧ N < Lm) :
    Calls Tryz.prog 21 #[.agg (arr 4 (d64 M)), .agg (arr 4 (d64 N))] w fun x w' => x = .returned (.agg (arr 4 (d64 ((M + N) % Lm)))) ∧ Below w.heap.size w w' := by
  have e := ps_Q (d64 M) (d64 N) 4
  have hc := pc_bd (d64_wds M 4) (d64_wds N 4) 4 (by omega)
  have hb := Q_bd (ps_wds (d64 M) (d64 N) 4)
  rw [dQ hM, dQ hN] at e
  rw [P256] at e hb
  have hs : Q (ps (d64 M) (d64 N)) 4 = M + N := by
    unfold Lm at *
    omega
  have hv : (Q (ps (d64 M) (d64 N)) 4 - Q Lf 4) % Lm = (M + N) % Lm := by rw [hs, Lf_Q, Int.sub_emod_right]
  refine add_gen M N _ _ _ w (fun w => plus_any _ _ w (d64_wds M 4) (d64_wds N 4)) (fun w => ?_)
  have := without_any (ps (d64 M) (d64 N)) Lf w (ps_wds _ _ 4) Lf_wds (by rw [hs, Lf_Q]; omega) (by rw [hs, Lf_Q]; omega)
  rwa [hv] at this

set_option maxRecDepth 100000 in
set_option maxHeartbeats 1000000 in
theorem neg_any (N : Int) (w : World) (hN : 0 ≤ N ∧ N < Lm) :
    Calls Tryz.prog 23 #[.agg (arr 4 (d64 N))] w fun x w' => x = .returned (.agg (arr 4 (d64 ((- N) % Lm)))) ∧ Below w.heap.size w w' := by
  have hz : Q (fun _ => 0) 4 = 0 := by decide
  have H2 : ∀ w, Calls Tryz.prog 64 #[.agg #[Value.int IntKind.u64 0, Value.int IntKind.u64 0, Value.int IntKind.u64 0, Value.int IntKind.u64 0], .agg (arr 4 (d64 N))] w fun x w' => x = .returned (.agg (arr 4 (d64 ((- N) % Lm)))) ∧ Below w.heap.size w w' := fun w => by
    have := without_any (fun _ => 0) (d64 N) w (fun _ _ => ⟨Int.le_refl 0, (by decide : (0 : Int) < 18446744073709551616)⟩) (d64_wds N 4) (by rw [hz, dQ hN]; omega) (by rw [hz, dQ hN]; omega)
    rw [hz, dQ hN, Int.zero_sub] at this
    exact this
  have C2 := hide H2
  clear H2 hz
  have R1 : Row ((w.alloc (.cells (arr 4 (d64 N)) 34)).alloc (.cells (arr 4 fun _ => 0) 34)) w.heap.size 34 4 (d64 N) := (Row.new w 34 4 _).alloc _
  have R3 : Row ((w.alloc (.cells (arr 4 (d64 N)) 34)).alloc (.cells (arr 4 fun _ => 0) 34)) (w.heap.size + 1) 34 4 (fun _ => 0) := Row.new' _ 34 4 _ (by simp)
  have O : Below w.heap.size w ((w.alloc (.cells (arr 4 (d64 N)) 34)).alloc (.cells (arr 4 fun _ => 0) 34)) := ((Below.refl _ _).alloc (Nat.le_refl _) _).alloc (by simp) _
  have HR := hide (And.intro R1 (And.intro R3 O))
  clear R1 R3 O
  generalize (- N) % Lm = V at *
  go_enter Tryz.func23, Tryz.ntmps23
  go_wp2_with (refine wpList_load_row rfl 32 _ rfl w.heap.size rfl 34 (arr 4 (d64 N)) (0, 0) _ HR.out.1 Tryz.underlying32 rfl (info32 _) ?_)
  refine (C2.out _).mono ?_
  rintro _ w1 ⟨rfl, hb1⟩
  have R3 := HR.out.2.1.keep hb1
  have O := HR.out.2.2.trans (hb1.mono HR.out.2.2.size)
  clear hb1 HR
  have RR := hide (R3.setAll (d64 V))
  have OO := hide (below_setCells (g := w.heap.size + 1) (by omega) (arr 4 (d64 V)).toList 0 O)
  clear O
  go_wp2_with (refine wpList_store_mid rfl 34 _ _ rfl (w.heap.size + 1) 0 (arr 4 (d64 V)) rfl rfl ?thn (info34 _) (arr_one _ _) ?_)
  case thn => rw [arr_size]; exact R3.there
  exact bodyPost_ret (v := .agg (arr 4 (d64 V))) (results_cell_row Tryz.results23 _ _ (w.heap.size + 1) 34 (arr 4 (d64 V)) (0, 0) _ rfl RR.out Tryz.underlying34 rfl (info34 _)) rfl ⟨rfl, OO.out⟩

end Go.Proofs.YtkeocdebfgcnnaaGreat.Ord

/- The contract of next: a number with a further half word below it, modulo the order. -/
namespace Go.Proofs.YtkeocdebfgcnnaaGreat.Ord
open Go.RowKit

theorem nx_or {x y : Int} (_hx : W64 x) (hy : 0 ≤ y) (hy1 : y < 4294967296) : bits BinOp.or IntKind.u64 (IntKind.u64.wrap (x * 4294967296)) y = x * 4294967296 % 18446744073709551616 + y := by
  rw [IntKind.wrap_u64, or_join 32 4294967296 (by decide) ⟨by omega, by omega⟩ ⟨by omega, by omega⟩ (by omega) (by omega)]
theorem nx_and {x : Int} (hx : W64 x) : bits BinOp.and IntKind.u64 x 268435455 = x % 268435456 := by
  obtain ⟨h0, h1⟩ := hx
  rw [u64_and x _ h0 (by omega) (by decide) (by decide)]
  have e : (268435455 : Int).toNat = 268435455 := by decide
  have e2 : x.toNat &&& 268435455 = x.toNat % 268435456 := Nat.and_two_pow_sub_one_eq_mod _ 28
  rw [e, e2]
  omega

set_option maxRecDepth 100000 in
set_option maxHeartbeats 1000000 in
theorem next_gen (x0 x1 x2 x3 H : Int) (t : Nat → Int) (w : World) (k0 : W64 x0) (k1 : W64 x1) (k2 : W64 x2) (k3 : W64 x3) (h0 : 0 ≤ H) (h1 : H < 4294967296)
    (HC : ∀ w, Calls Tryz.prog 64 #[.agg #[.int .u64 (x0 * 4294967296 % 18446744073709551616 + H), .int .u64 (x1 * 4294967296 % 18446744073709551616 + x0 / 4294967296), .int .u64 (x2 * 4294967296 % 18446744073709551616 + x1 / 4294967296), .int .u64 (x3 % 268435456 * 4294967296 + x2 / 4294967296)], .agg #[.int .u64 (x3 / 268435456 * 6346243789798364141 % 18446744073709551616), .int .u64 ((x3 / 268435456 * 1503914060200516822 + x3 / 268435456 * 6346243789798364141 / 18446744073709551616) % 18446744073709551616), .int .u64 ((x3 / 268435456 * 1503914060200516822 + x3 / 268435456 * 6346243789798364141 / 18446744073709551616) / 18446744073709551616), .int .u64 0]] w fun x w' => x = .returned (.agg (arr 4 t)) ∧ Below w.heap.size w w') :
    Calls Tryz.prog 76 #[.agg #[.int .u64 x0, .int .u64 x1, .int .u64 x2, .int .u64 x3], .int .u64 H] w fun x w' => x = .returned (.agg (arr 4 t)) ∧ Below w.heap.size w w' := by
  have e0 := nx_or k0 h0 h1
  have e1 := nx_or k1 (y := x0 / 4294967296) (by unfold W64 at *; omega) (by unfold W64 at *; omega)
  have e2 := nx_or k2 (y := x1 / 4294967296) (by unfold W64 at *; omega) (by unfold W64 at *; omega)
  have e3 := nx_and k3
  have e4 : bits BinOp.or IntKind.u64 (x3 % 268435456 * 4294967296) (x2 / 4294967296) = x3 % 268435456 * 4294967296 + x2 / 4294967296 := by
    unfold W64 at *
    rw [or_join 32 4294967296 (by decide) ⟨by omega, by omega⟩ ⟨by omega, by omega⟩ (by omega) (by omega)]
  have q0 : W64 (x3 / 268435456) := by unfold W64 at *; omega
  have C := hide HC
  have c1 : W64 (x3 / 268435456 * 6346243789798364141 / 18446744073709551616) := by unfold W64 at *; omega
  have p1 := fun w => productAnd_any (x3 / 268435456) 6346243789798364141 0 0 w q0 ⟨by decide, by decide⟩ ⟨by decide, by decide⟩ ⟨by decide, by decide⟩
  have p2 := fun w => productAnd_any (x3 / 268435456) 1503914060200516822 (x3 / 268435456 * 6346243789798364141 / 18446744073709551616) 0 w q0 ⟨by decide, by decide⟩ c1 ⟨by decide, by decide⟩
  simp only [Int.add_zero] at p1 p2
  have P1 := hide p1
  have P2 := hide p2
  clear HC p1 p2 c1
  have O : Below w.heap.size w ((((w.alloc (.cells #[.int .u64 x0, .int .u64 x1, .int .u64 x2, .int .u64 x3] 34)).alloc (.cells #[.int .u64 0, .int .u64 0, .int .u64 0, .int .u64 0] 34)).alloc (.cells #[.int .u64 x0, .int .u64 x1, .int .u64 x2, .int .u64 x3] 32)).alloc (.cells #[.int .u64 (x0 * 4294967296 % 18446744073709551616 + H), .int .u64 (x1 * 4294967296 % 18446744073709551616 + x0 / 4294967296), .int .u64 (x2 * 4294967296 % 18446744073709551616 + x1 / 4294967296), .int .u64 (x3 % 268435456 * 4294967296 + x2 / 4294967296)] 32)) := ((((Below.refl _ _).alloc (Nat.le_refl _) _).alloc (by simp) _).alloc (by simp; omega) _).alloc (by simp; omega) _
  have R3 : Row ((((w.alloc (.cells #[.int .u64 x0, .int .u64 x1, .int .u64 x2, .int .u64 x3] 34)).alloc (.cells #[.int .u64 0, .int .u64 0, .int .u64 0, .int .u64 0] 34)).alloc (.cells #[.int .u64 x0, .int .u64 x1, .int .u64 x2, .int .u64 x3] 32)).alloc (.cells #[.int .u64 (x0 * 4294967296 % 18446744073709551616 + H), .int .u64 (x1 * 4294967296 % 18446744073709551616 + x0 / 4294967296), .int .u64 (x2 * 4294967296 % 18446744073709551616 + x1 / 4294967296), .int .u64 (x3 % 268435456 * 4294967296 + x2 / 4294967296)] 32)) (w.heap.size + 1) 34 4 (fun _ => 0) := ((Row.new' _ 34 4 (fun _ => 0) (by simp)).alloc _).alloc _
  have HO := hide (And.intro O R3)
  clear O R3
  go_enter Tryz.func76, Tryz.ntmps76
  go_wp2_with fail
  refine (P1.out _).mono ?_
  rintro _ w1 ⟨rfl, rfl⟩
  go_wp2_with fail
  refine (P2.out _).mono ?_
  rintro _ w2 ⟨rfl, rfl⟩
  go_wp2_with fail
  refine (C.out _).mono ?_
  rintro _ w3 ⟨rfl, hb⟩
  have R3 := HO.out.2.keep hb
  have O := HO.out.1.trans (hb.mono HO.out.1.size)
  clear hb HO C P1 P2 e0 e1 e2 e3 e4
  have RR := hide (R3.setAll t)
  have OO := hide (below_setCells (g := w.heap.size + 1) (by omega) (arr 4 t).toList 0 O)
  clear O
  go_wp2_with (refine wpList_store_mid rfl 34 _ _ rfl (w.heap.size + 1) 0 (arr 4 t) rfl rfl ?thn (info34 _) (arr_one _ _) ?_)
  case thn => rw [arr_size]; exact R3.there
  exact bodyPost_ret (v := .agg (arr 4 t)) (results_cell_row Tryz.results76 _ _ (w.heap.size + 1) 34 (arr 4 t) (0, 0) _ rfl RR.out Tryz.underlying34 rfl (info34 _)) rfl ⟨rfl, OO.out⟩

theorem Q4 (f : Nat → Int) : Q f 4 = f 0 + f 1 * 18446744073709551616 + f 2 * 340282366920938463463374607431768211456 + f 3 * 6277101735386680763835789423207666416102355444464034512896 := by
  simp [Q]

/-- What rest is. -/
def nf (x0 x1 x2 x3 H : Int) : Nat → Int := fun i => [x0 * 4294967296 % 18446744073709551616 + H, x1 * 4294967296 % 18446744073709551616 + x0 / 4294967296, x2 * 4294967296 % 18446744073709551616 + x1 / 4294967296, x3 % 268435456 * 4294967296 + x2 / 4294967296].getD i 0
def ng (o : Int) : Nat → Int := fun i => [o * 6346243789798364141 % 18446744073709551616, (o * 1503914060200516822 + o * 6346243789798364141 / 18446744073709551616) % 18446744073709551616, (o * 1503914060200516822 + o * 6346243789798364141 / 18446744073709551616) / 18446744073709551616, 0].getD i 0

theorem nf_Q (x0 x1 x2 x3 H : Int) : Q (nf x0 x1 x2 x3 H) 4 = (x0 + x1 * 18446744073709551616 + x2 * 340282366920938463463374607431768211456 + x3 % 268435456 * 6277101735386680763835789423207666416102355444464034512896) * 4294967296 + H := by
  rw [Q4]
  show (x0 * 4294967296 % 18446744073709551616 + H) + (x1 * 4294967296 % 18446744073709551616 + x0 / 4294967296) * 18446744073709551616 + (x2 * 4294967296 % 18446744073709551616 + x1 / 4294967296) * 340282366920938463463374607431768211456 + (x3 % 268435456 * 4294967296 + x2 / 4294967296) * 6277101735386680763835789423207666416102355444464034512896 = _
  omega
theorem ng_Q (o : Int) : Q (ng o) 4 = o * 27742317777372353535851937790883648493 := by
  rw [Q4]
  show o * 6346243789798364141 % 18446744073709551616 + ((o * 1503914060200516822 + o * 6346243789798364141 / 18446744073709551616) % 18446744073709551616) * 18446744073709551616 + ((o * 1503914060200516822 + o * 6346243789798364141 / 18446744073709551616) / 18446744073709551616) * 340282366920938463463374607431768211456 + 0 * 6277101735386680763835789423207666416102355444464034512896 = _
  omega

theorem next_any (N H : Int) (w : World) (hN : 0 ≤ N ∧ N < Lm) (h0 : 0 ≤ H) (h1 : H < 4294967296) :
    Calls Tryz.prog 76 #[.agg (arr 4 (d64 N)), .int .u64 H] w fun x w' => x = .returned (.agg (arr 4 (d64 ((N * 4294967296 + H) % Lm)))) ∧ Below w.heap.size w w' := by
  have k0 := d64_wds N 4 0 (by omega)
  have k1 := d64_wds N 4 1 (by omega)
  have k2 := d64_wds N 4 2 (by omega)
  have k3 := d64_wds N 4 3 (by omega)
  have hq := dQ hN
  rw [Q4] at hq
  show Calls Tryz.prog 76 #[.agg #[.int .u64 (d64 N 0), .int .u64 (d64 N 1), .int .u64 (d64 N 2), .int .u64 (d64 N 3)], .int .u64 H] w _
  generalize d64 N 0 = x0 at *
  generalize d64 N 1 = x1 at *
  generalize d64 N 2 = x2 at *
  generalize d64 N 3 = x3 at *
  refine next_gen x0 x1 x2 x3 H _ w k0 k1 k2 k3 h0 h1 (fun w => ?_)
  unfold W64 at k0 k1 k2 k3
  have wf : Wds (nf x0 x1 x2 x3 H) 4 := fun i hi => by
    rcases (show i = 0 ∨ i = 1 ∨ i = 2 ∨ i = 3 by omega) with rfl | rfl | rfl | rfl
    · show W64 (x0 * 4294967296 % 18446744073709551616 + H); exact ⟨by omega, by omega⟩
    · show W64 (x1 * 4294967296 % 18446744073709551616 + x0 / 4294967296); exact ⟨by omega, by omega⟩
    · show W64 (x2 * 4294967296 % 18446744073709551616 + x1 / 4294967296); exact ⟨by omega, by omega⟩
    · show W64 (x3 % 268435456 * 4294967296 + x2 / 4294967296); exact ⟨by omega, by omega⟩
  have wg : Wds (ng (x3 / 268435456)) 4 := fun i hi => by
    rcases (show i = 0 ∨ i = 1 ∨ i = 2 ∨ i = 3 by omega) with rfl | rfl | rfl | rfl
    · show W64 (x3 / 268435456 * 6346243789798364141 % 18446744073709551616); exact ⟨by omega, by omega⟩
    · show W64 ((x3 / 268435456 * 1503914060200516822 + x3 / 268435456 * 6346243789798364141 / 18446744073709551616) % 18446744073709551616); exact ⟨by omega, by omega⟩
    · show W64 ((x3 / 268435456 * 1503914060200516822 + x3 / 268435456 * 6346243789798364141 / 18446744073709551616) / 18446744073709551616); exact ⟨by omega, by omega⟩
    · show W64 0; exact ⟨by decide, by decide⟩
  have ef := nf_Q x0 x1 x2 x3 H
  have eg := ng_Q (x3 / 268435456)
  have ed : Q (nf x0 x1 x2 x3 H) 4 - Q (ng (x3 / 268435456)) 4 = N * 4294967296 + H - x3 / 268435456 * Lm := by
    rw [ef, eg, ← hq]
    unfold Lm
    omega
  have := without_any (nf x0 x1 x2 x3 H) (ng (x3 / 268435456)) w wf wg (by rw [ef, eg]; unfold Lm; omega) (by rw [ef, eg]; unfold Lm; omega)
  rw [ed, Int.sub_mul_emod_self_right] at this
  exact this

end Go.Proofs.YtkeocdebfgcnnaaGreat.Ord

/- The contract of modulo: 512 bits modulo the order. -/
namespace Go.Proofs.YtkeocdebfgcnnaaGreat.Ord
open Go.RowKit

/-- What a is after k rounds. -/
def md (f : Nat → Int) : Nat → Int
  | 0 => f 5 + f 6 * 18446744073709551616 + f 7 * 340282366920938463463374607431768211456
  | k + 1 => (md f k * 18446744073709551616 + f (4 - k)) % Lm
theorem md_bd {f : Nat → Int} (hf : Wds f 8) : ∀ k, 0 ≤ md f k ∧ md f k < Lm
  | 0 => by
    have h5 := hf 5 (by omega)
    have h6 := hf 6 (by omega)
    have h7 := hf 7 (by omega)
    unfold W64 at *
    unfold md Lm
    omega
  | k + 1 => lmod _
theorem md_step (a b : Int) : (a % Lm * 18446744073709551616 + b) % Lm = (a * 18446744073709551616 + b) % Lm := by
  rw [Int.add_emod, Int.mul_emod, Int.emod_emod_of_dvd a (Int.dvd_refl _), ← Int.mul_emod, ← Int.add_emod]
theorem md_half (N h : Int) : ((N * 4294967296 + h / 4294967296) % Lm * 4294967296 + h % 4294967296) % Lm = (N * 18446744073709551616 + h) % Lm := by
  rw [Int.add_emod, Int.mul_emod, Int.emod_emod_of_dvd _ (Int.dvd_refl Lm), ← Int.mul_emod, ← Int.add_emod]
  congr 1
  omega
theorem Q8 (f : Nat → Int) : Q f 8 = (((((f 5 + f 6 * 18446744073709551616 + f 7 * 340282366920938463463374607431768211456) * 18446744073709551616 + f 4) * 18446744073709551616 + f 3) * 18446744073709551616 + f 2) * 18446744073709551616 + f 1) * 18446744073709551616 + f 0 := by
  simp [Q]
  omega
theorem md_all (f : Nat → Int) : md f 5 = Q f 8 % Lm := by
  rw [Q8]
  have s1 : md f 1 = ((f 5 + f 6 * 18446744073709551616 + f 7 * 340282366920938463463374607431768211456) * 18446744073709551616 + f 4) % Lm := rfl
  have s2 : md f 2 = (((f 5 + f 6 * 18446744073709551616 + f 7 * 340282366920938463463374607431768211456) * 18446744073709551616 + f 4) * 18446744073709551616 + f 3) % Lm := by
    show (md f 1 * 18446744073709551616 + f 3) % Lm = _
    rw [s1, md_step]
  have s3 : md f 3 = ((((f 5 + f 6 * 18446744073709551616 + f 7 * 340282366920938463463374607431768211456) * 18446744073709551616 + f 4) * 18446744073709551616 + f 3) * 18446744073709551616 + f 2) % Lm := by
    show (md f 2 * 18446744073709551616 + f 2) % Lm = _
    rw [s2, md_step]
  have s4 : md f 4 = (((((f 5 + f 6 * 18446744073709551616 + f 7 * 340282366920938463463374607431768211456) * 18446744073709551616 + f 4) * 18446744073709551616 + f 3) * 18446744073709551616 + f 2) * 18446744073709551616 + f 1) % Lm := by
    show (md f 3 * 18446744073709551616 + f 1) % Lm = _
    rw [s3, md_step]
  show (md f 4 * 18446744073709551616 + f 0) % Lm = _
  rw [s4, md_step]

theorem and32 {x : Int} (h : W64 x) : bits BinOp.and IntKind.u64 x 4294967295 = x % 4294967296 := by
  obtain ⟨X, rfl⟩ := Int.eq_ofNat_of_zero_le h.1
  have := h.2
  rw [maskN X (by omega)]
  omega

set_option maxRecDepth 100000 in
set_option maxHeartbeats 2000000 in
theorem modulo_any (f : Nat → Int) (w : World) (hf : Wds f 8) :
    Calls Tryz.prog 32 #[.agg (arr 8 f)] w fun x w' => x = .returned (.agg (arr 4 (d64 (Q f 8 % Lm)))) ∧ Below w.heap.size w w' := by
  rw [← md_all]
  have hm := md_bd hf
  have R1 : Row ((w.alloc (.cells (arr 8 f) 68)).alloc (.cells (arr 4 fun _ => 0) 34)) w.heap.size 68 8 f := (Row.new w 68 8 f).alloc _
  have R2 : Row ((w.alloc (.cells (arr 8 f) 68)).alloc (.cells (arr 4 fun _ => 0) 34)) (w.heap.size + 1) 34 4 (fun _ => 0) := Row.new' _ 34 4 _ (by simp)
  have O : Below w.heap.size w ((w.alloc (.cells (arr 8 f) 68)).alloc (.cells (arr 4 fun _ => 0) 34)) := ((Below.refl _ _).alloc (Nat.le_refl _) _).alloc (by simp) _
  have c5 : ((w.alloc (.cells (arr 8 f) 68)).alloc (.cells #[Value.int IntKind.u64 0, Value.int IntKind.u64 0, Value.int IntKind.u64 0, Value.int IntKind.u64 0] 34)).cell? ⟨w.heap.size, 5, none⟩ = some (.int .u64 (f 5)) := R1.cell (i := 5) (by omega)
  have c6 : ((w.alloc (.cells (arr 8 f) 68)).alloc (.cells #[Value.int IntKind.u64 0, Value.int IntKind.u64 0, Value.int IntKind.u64 0, Value.int IntKind.u64 0] 34)).cell? ⟨w.heap.size, 6, none⟩ = some (.int .u64 (f 6)) := R1.cell (i := 6) (by omega)
  have c7 : ((w.alloc (.cells (arr 8 f) 68)).alloc (.cells #[Value.int IntKind.u64 0, Value.int IntKind.u64 0, Value.int IntKind.u64 0, Value.int IntKind.u64 0] 34)).cell? ⟨w.heap.size, 7, none⟩ = some (.int .u64 (f 7)) := R1.cell (i := 7) (by omega)
  replace R1 := R1.alloc (.cells #[.int .u64 (f 5), .int .u64 (f 6), .int .u64 (f 7), .int .u64 0] 34)
  replace R2 := R2.alloc (.cells #[.int .u64 (f 5), .int .u64 (f 6), .int .u64 (f 7), .int .u64 0] 34)
  have RA : Row (((w.alloc (.cells (arr 8 f) 68)).alloc (.cells (arr 4 fun _ => 0) 34)).alloc (.cells #[.int .u64 (f 5), .int .u64 (f 6), .int .u64 (f 7), .int .u64 0] 34)) (w.heap.size + 1 + 1) 34 4 (fun i => [f 5, f 6, f 7, 0].getD i 0) := Row.new' _ 34 4 (fun i => [f 5, f 6, f 7, 0].getD i 0) (by simp)
  replace O := O.alloc (by simp; omega) (.cells #[.int .u64 (f 5), .int .u64 (f 6), .int .u64 (f 7), .int .u64 0] 34)
  replace RA := RA.congr (f' := d64 (md f 0)) (Q_inj (fun i hi => by
    rcases (show i = 0 ∨ i = 1 ∨ i = 2 ∨ i = 3 by omega) with rfl | rfl | rfl | rfl
    · exact hf 5 (by omega)
    · exact hf 6 (by omega)
    · exact hf 7 (by omega)
    · show W64 (0 : Int); exact ⟨by decide, by decide⟩) (d64_wds _ 4) (by
    rw [dQ (hm 0), Q4]
    show f 5 + f 6 * 18446744073709551616 + f 7 * 340282366920938463463374607431768211456 + 0 * 6277101735386680763835789423207666416102355444464034512896 = f 5 + f 6 * 18446744073709551616 + f 7 * 340282366920938463463374607431768211456
    omega))
  have HR := hide (And.intro R1 (And.intro R2 (And.intro RA O)))
  clear R1 R2 RA O
  go_enter Tryz.func32, Tryz.ntmps32
  go_wp2_with (refine wpList_build rfl 34 _ rfl #[.int .u64 (f 5), .int .u64 (f 6), .int .u64 (f 7), .int .u64 0] (by kernel_rfl) ?_)
  rw [show #[Value.int IntKind.u64 0, Value.int IntKind.u64 0, Value.int IntKind.u64 0, Value.int IntKind.u64 0] = arr 4 (fun _ => 0) from rfl]
  clear c5 c6 c7
  obtain ⟨R1, R2, RA, O⟩ := HR.out
  clear HR
  generalize (((w.alloc (.cells (arr 8 f) 68)).alloc (.cells (arr 4 fun _ => 0) 34)).alloc (.cells #[.int .u64 (f 5), .int .u64 (f 6), .int .u64 (f 7), .int .u64 0] 34)) = W at *
  go_loopw [14] (fun v wr => ∃ k : Nat, k ≤ 5 ∧ v = .int .i64 k ∧ Row wr w.heap.size 68 8 f ∧ Row wr (w.heap.size + 1) 34 4 (fun _ => 0) ∧ Row wr (w.heap.size + 1 + 1) 34 4 (d64 (md f k)) ∧ Below w.heap.size w wr) (fun v _ => 5 - (intOf v).toNat)
  case atStart => exact ⟨0, by omega, rfl, R1, R2, RA, O⟩
  case round =>
    clear R1 R2 RA O
    obtain ⟨k, hk, rfl, R1, R2, RA, O⟩ := hrel
    by_cases hlt : k < 5
    · rcases (show k = 0 ∨ k = 1 ∨ k = 2 ∨ k = 3 ∨ k = 4 by omega) with rfl | rfl | rfl | rfl | rfl
      · have c := R1.cell (i := 4) (by omega)
        obtain ⟨b0, b1⟩ := hf 4 (by omega)
        have ea := and32 (hf 4 (by omega))
        have HN := hide (hm 0)
        have HE := hide (show md f (0 + 1) = ((md f 0 * 4294967296 + f 4 / 4294967296) % Lm * 4294967296 + f 4 % 4294967296) % Lm from (md_half (md f 0) (f 4)).symm)
        have HA := hide RA
        have H1 := hide R1
        have HO := hide (And.intro R2 O)
        clear RA R1 R2 O
        generalize f 4 = v at *
        generalize md f 0 = N at *
        go_wp2_with (refine wpList_load_row rfl 34 _ rfl (w.heap.size + 1 + 1) rfl 34 (arr 4 (d64 N)) (0, 0) _ HA.out Tryz.underlying34 rfl (info34 _) ?_)
        refine (next_any N (v / 4294967296) _ HN.out (by omega) (by omega)).mono ?_
        rintro _ w1 ⟨rfl, hb1⟩
        have RA := HA.out.keep hb1
        have R1 := H1.out.keep hb1
        have R2 := HO.out.1.keep hb1
        have O := HO.out.2.trans (hb1.mono HO.out.2.size)
        clear hb1 HA H1 HO HN
        have HN := hide (lmod (N * 4294967296 + v / 4294967296))
        generalize (N * 4294967296 + v / 4294967296) % Lm = N2 at *
        go_wp2_with fail
        refine (next_any N2 (v % 4294967296) _ HN.out (by omega) (by omega)).mono ?_
        rintro _ w2 ⟨rfl, hb2⟩
        replace RA := RA.keep hb2
        replace R1 := R1.keep hb2
        replace R2 := R2.keep hb2
        replace O := O.trans (hb2.mono O.size)
        clear hb2 HN
        rw [← HE.out]
        generalize hN3 : md f (0 + 1) = N3 at *
        have HM0 := hide hN3
        clear hN3
        have RB := hide (RA.setAll (d64 N3))
        have R1' := hide (R1.setOther (k := w.heap.size + 1 + 1) (by omega) 0 (arr 4 (d64 N3)).toList)
        have R2' := hide (R2.setOther (k := w.heap.size + 1 + 1) (by omega) 0 (arr 4 (d64 N3)).toList)
        have O' := hide (below_setCells (g := w.heap.size + 1 + 1) (by omega) (arr 4 (d64 N3)).toList 0 O)
        clear R1 R2 O
        go_wp2_with (refine wpList_store_mid rfl 34 _ _ rfl (w.heap.size + 1 + 1) 0 (arr 4 (d64 N3)) rfl rfl ?thm0 (info34 _) (arr_one _ _) ?_)
        case thm0 => rw [arr_size]; exact RA.there
        go_roundw
        case rel => exact ⟨0 + 1, by omega, rfl, R1'.out, R2'.out, (by rw [HM0.out]; exact RB.out), O'.out⟩
        case measure => simp [intOf]
      · have c := R1.cell (i := 3) (by omega)
        obtain ⟨b0, b1⟩ := hf 3 (by omega)
        have ea := and32 (hf 3 (by omega))
        have HN := hide (hm 1)
        have HE := hide (show md f (1 + 1) = ((md f 1 * 4294967296 + f 3 / 4294967296) % Lm * 4294967296 + f 3 % 4294967296) % Lm from (md_half (md f 1) (f 3)).symm)
        have HA := hide RA
        have H1 := hide R1
        have HO := hide (And.intro R2 O)
        clear RA R1 R2 O
        generalize f 3 = v at *
        generalize md f 1 = N at *
        go_wp2_with (refine wpList_load_row rfl 34 _ rfl (w.heap.size + 1 + 1) rfl 34 (arr 4 (d64 N)) (0, 0) _ HA.out Tryz.underlying34 rfl (info34 _) ?_)
        refine (next_any N (v / 4294967296) _ HN.out (by omega) (by omega)).mono ?_
        rintro _ w1 ⟨rfl, hb1⟩
        have RA := HA.out.keep hb1
        have R1 := H1.out.keep hb1
        have R2 := HO.out.1.keep hb1
        have O := HO.out.2.trans (hb1.mono HO.out.2.size)
        clear hb1 HA H1 HO HN
        have HN := hide (lmod (N * 4294967296 + v / 4294967296))
        generalize (N * 4294967296 + v / 4294967296) % Lm = N2 at *
        go_wp2_with fail
        refine (next_any N2 (v % 4294967296) _ HN.out (by omega) (by omega)).mono ?_
        rintro _ w2 ⟨rfl, hb2⟩
        replace RA := RA.keep hb2
        replace R1 := R1.keep hb2
        replace R2 := R2.keep hb2
        replace O := O.trans (hb2.mono O.size)
        clear hb2 HN
        rw [← HE.out]
        generalize hN3 : md f (1 + 1) = N3 at *
        have HM1 := hide hN3
        clear hN3
        have RB := hide (RA.setAll (d64 N3))
        have R1' := hide (R1.setOther (k := w.heap.size + 1 + 1) (by omega) 0 (arr 4 (d64 N3)).toList)
        have R2' := hide (R2.setOther (k := w.heap.size + 1 + 1) (by omega) 0 (arr 4 (d64 N3)).toList)
        have O' := hide (below_setCells (g := w.heap.size + 1 + 1) (by omega) (arr 4 (d64 N3)).toList 0 O)
        clear R1 R2 O
        go_wp2_with (refine wpList_store_mid rfl 34 _ _ rfl (w.heap.size + 1 + 1) 0 (arr 4 (d64 N3)) rfl rfl ?thm1 (info34 _) (arr_one _ _) ?_)
        case thm1 => rw [arr_size]; exact RA.there
        go_roundw
        case rel => exact ⟨1 + 1, by omega, rfl, R1'.out, R2'.out, (by rw [HM1.out]; exact RB.out), O'.out⟩
        case measure => simp [intOf]
      · have c := R1.cell (i := 2) (by omega)
        obtain ⟨b0, b1⟩ := hf 2 (by omega)
        have ea := and32 (hf 2 (by omega))
        have HN := hide (hm 2)
        have HE := hide (show md f (2 + 1) = ((md f 2 * 4294967296 + f 2 / 4294967296) % Lm * 4294967296 + f 2 % 4294967296) % Lm from (md_half (md f 2) (f 2)).symm)
        have HA := hide RA
        have H1 := hide R1
        have HO := hide (And.intro R2 O)
        clear RA R1 R2 O
        generalize f 2 = v at *
        generalize md f 2 = N at *
        go_wp2_with (refine wpList_load_row rfl 34 _ rfl (w.heap.size + 1 + 1) rfl 34 (arr 4 (d64 N)) (0, 0) _ HA.out Tryz.underlying34 rfl (info34 _) ?_)
        refine (next_any N (v / 4294967296) _ HN.out (by omega) (by omega)).mono ?_
        rintro _ w1 ⟨rfl, hb1⟩
        have RA := HA.out.keep hb1
        have R1 := H1.out.keep hb1
        have R2 := HO.out.1.keep hb1
        have O := HO.out.2.trans (hb1.mono HO.out.2.size)
        clear hb1 HA H1 HO HN
        have HN := hide (lmod (N * 4294967296 + v / 4294967296))
        generalize (N * 4294967296 + v / 4294967296) % Lm = N2 at *
        go_wp2_with fail
        refine (next_any N2 (v % 4294967296) _ HN.out (by omega) (by omega)).mono ?_
        rintro _ w2 ⟨rfl, hb2⟩
        replace RA := RA.keep hb2
        replace R1 := R1.keep hb2
        replace R2 := R2.keep hb2
        replace O := O.trans (hb2.mono O.size)
        clear hb2 HN
        rw [← HE.out]
        generalize hN3 : md f (2 + 1) = N3 at *
        have HM2 := hide hN3
        clear hN3
        have RB := hide (RA.setAll (d64 N3))
        have R1' := hide (R1.setOther (k := w.heap.size + 1 + 1) (by omega) 0 (arr 4 (d64 N3)).toList)
        have R2' := hide (R2.setOther (k := w.heap.size + 1 + 1) (by omega) 0 (arr 4 (d64 N3)).toList)
        have O' := hide (below_setCells (g := w.heap.size + 1 + 1) (by omega) (arr 4 (d64 N3)).toList 0 O)
        clear R1 R2 O
        go_wp2_with (refine wpList_store_mid rfl 34 _ _ rfl (w.heap.size + 1 + 1) 0 (arr 4 (d64 N3)) rfl rfl ?thm2 (info34 _) (arr_one _ _) ?_)
        case thm2 => rw [arr_size]; exact RA.there
        go_roundw
        case rel => exact ⟨2 + 1, by omega, rfl, R1'.out, R2'.out, (by rw [HM2.out]; exact RB.out), O'.out⟩
        case measure => simp [intOf]
      · have c := R1.cell (i := 1) (by omega)
        obtain ⟨b0, b1⟩ := hf 1 (by omega)
        have ea := and32 (hf 1 (by omega))
        have HN := hide (hm 3)
        have HE := hide (show md f (3 + 1) = ((md f 3 * 4294967296 + f 1 / 4294967296) % Lm * 4294967296 + f 1 % 4294967296) % Lm from (md_half (md f 3) (f 1)).symm)
        have HA := hide RA
        have H1 := hide R1
        have HO := hide (And.intro R2 O)
        clear RA R1 R2 O
        generalize f 1 = v at *
        generalize md f 3 = N at *
        go_wp2_with (refine wpList_load_row rfl 34 _ rfl (w.heap.size + 1 + 1) rfl 34 (arr 4 (d64 N)) (0, 0) _ HA.out Tryz.underlying34 rfl (info34 _) ?_)
        refine (next_any N (v / 4294967296) _ HN.out (by omega) (by omega)).mono ?_
        rintro _ w1 ⟨rfl, hb1⟩
        have RA := HA.out.keep hb1
        have R1 := H1.out.keep hb1
        have R2 := HO.out.1.keep hb1
        have O := HO.out.2.trans (hb1.mono HO.out.2.size)
        clear hb1 HA H1 HO HN
        have HN := hide (lmod (N * 4294967296 + v / 4294967296))
        generalize (N * 4294967296 + v / 4294967296) % Lm = N2 at *
        go_wp2_with fail
        refine (next_any N2 (v % 4294967296) _ HN.out (by omega) (by omega)).mono ?_
        rintro _ w2 ⟨rfl, hb2⟩
        replace RA := RA.keep hb2
        replace R1 := R1.keep hb2
        replace R2 := R2.keep hb2
        replace O := O.trans (hb2.mono O.size)
        clear hb2 HN
        rw [← HE.out]
        generalize hN3 : md f (3 + 1) = N3 at *
        have HM3 := hide hN3
        clear hN3
        have RB := hide (RA.setAll (d64 N3))
        have R1' := hide (R1.setOther (k := w.heap.size + 1 + 1) (by omega) 0 (arr 4 (d64 N3)).toList)
        have R2' := hide (R2.setOther (k := w.heap.size + 1 + 1) (by omega) 0 (arr 4 (d64 N3)).toList)
        have O' := hide (below_setCells (g := w.heap.size + 1 + 1) (by omega) (arr 4 (d64 N3)).toList 0 O)
        clear R1 R2 O
        go_wp2_with (refine wpList_store_mid rfl 34 _ _ rfl (w.heap.size + 1 + 1) 0 (arr 4 (d64 N3)) rfl rfl ?thm3 (info34 _) (arr_one _ _) ?_)
        case thm3 => rw [arr_size]; exact RA.there
        go_roundw
        case rel => exact ⟨3 + 1, by omega, rfl, R1'.out, R2'.out, (by rw [HM3.out]; exact RB.out), O'.out⟩
        case measure => simp [intOf]
      · have c := R1.cell (i := 0) (by omega)
        obtain ⟨b0, b1⟩ := hf 0 (by omega)
        have ea := and32 (hf 0 (by omega))
        have HN := hide (hm 4)
        have HE := hide (show md f (4 + 1) = ((md f 4 * 4294967296 + f 0 / 4294967296) % Lm * 4294967296 + f 0 % 4294967296) % Lm from (md_half (md f 4) (f 0)).symm)
        have HA := hide RA
        have H1 := hide R1
        have HO := hide (And.intro R2 O)
        clear RA R1 R2 O
        generalize f 0 = v at *
        generalize md f 4 = N at *
        go_wp2_with (refine wpList_load_row rfl 34 _ rfl (w.heap.size + 1 + 1) rfl 34 (arr 4 (d64 N)) (0, 0) _ HA.out Tryz.underlying34 rfl (info34 _) ?_)
        refine (next_any N (v / 4294967296) _ HN.out (by omega) (by omega)).mono ?_
        rintro _ w1 ⟨rfl, hb1⟩
        have RA := HA.out.keep hb1
        have R1 := H1.out.keep hb1
        have R2 := HO.out.1.keep hb1
        have O := HO.out.2.trans (hb1.mono HO.out.2.size)
        clear hb1 HA H1 HO HN
        have HN := hide (lmod (N * 4294967296 + v / 4294967296))
        generalize (N * 4294967296 + v / 4294967296) % Lm = N2 at *
        go_wp2_with fail
        refine (next_any N2 (v % 4294967296) _ HN.out (by omega) (by omega)).mono ?_
        rintro _ w2 ⟨rfl, hb2⟩
        replace RA := RA.keep hb2
        replace R1 := R1.keep hb2
        replace R2 := R2.keep hb2
        replace O := O.trans (hb2.mono O.size)
        clear hb2 HN
        rw [← HE.out]
        generalize hN3 : md f (4 + 1) = N3 at *
        have HM4 := hide hN3
        clear hN3
        have RB := hide (RA.setAll (d64 N3))
        have R1' := hide (R1.setOther (k := w.heap.size + 1 + 1) (by omega) 0 (arr 4 (d64 N3)).toList)
        have R2' := hide (R2.setOther (k := w.heap.size + 1 + 1) (by omega) 0 (arr 4 (d64 N3)).toList)
        have O' := hide (below_setCells (g := w.heap.size + 1 + 1) (by omega) (arr 4 (d64 N3)).toList 0 O)
        clear R1 R2 O
        go_wp2_with (refine wpList_store_mid rfl 34 _ _ rfl (w.heap.size + 1 + 1) 0 (arr 4 (d64 N3)) rfl rfl ?thm4 (info34 _) (arr_one _ _) ?_)
        case thm4 => rw [arr_size]; exact RA.there
        go_roundw
        case rel => exact ⟨4 + 1, by omega, rfl, R1'.out, R2'.out, (by rw [HM4.out]; exact RB.out), O'.out⟩
        case measure => simp [intOf]
    · have hk' : k = 5 := by omega
      subst hk'
      have RR := hide (R2.setAll (d64 (md f 5)))
      have OO := hide (below_setCells (g := w.heap.size + 1) (by omega) (arr 4 (d64 (md f 5))).toList 0 O)
      have HX := hide RA
      clear RA O R1
      generalize hN5 : md f 5 = N at *
      have H5 := hide hN5
      clear hN5
      go_wp2_with (first | (refine wpList_load_row rfl 34 _ rfl (w.heap.size + 1 + 1) rfl 34 (arr 4 (d64 N)) (0, 0) _ HX.out Tryz.underlying34 rfl (info34 _) ?_) | (refine wpList_store_mid rfl 34 _ _ rfl (w.heap.size + 1) 0 (arr 4 (d64 N)) rfl rfl ?the (info34 _) (arr_one _ _) ?_))
      case the => rw [arr_size]; exact R2.there
      exact bodyPost_ret (v := .agg (arr 4 (d64 N))) (results_cell_row Tryz.results32 _ _ (w.heap.size + 1) 34 (arr 4 (d64 N)) (0, 0) _ rfl RR.out Tryz.underlying34 rfl (info34 _)) rfl ⟨by rw [H5.out], OO.out⟩

end Go.Proofs.YtkeocdebfgcnnaaGreat.Ord

/- The contract of times: the product, in eight words. -/
namespace Go.Proofs.YtkeocdebfgcnnaaGreat.Ord
open Go.RowKit

theorem Q_upd (o : Nat → Int) (k : Nat) (v : Int) : ∀ n, k < n → Q (upd o k v) n = Q o n + (v - o k) * 18446744073709551616 ^ k
  | 0, h => by omega
  | n + 1, h => by
    simp only [Q]
    by_cases e : k = n
    · subst e
      rw [Q_congr (f := upd o k v) (g := o) (n := k) (fun i hi => by unfold upd; rw [if_neg (by omega)]), show upd o k v k = v by unfold upd; rw [if_pos rfl], Int.sub_mul]
      omega
    · rw [Q_upd o k v n (by omega), show upd o k v n = o n by unfold upd; rw [if_neg (by omega)]]
      omega

/-- i rows are in, and of the next one j words; c is carried. -/
structure TI (f g : Nat → Int) (i j : Nat) (o : Nat → Int) (c : Int) : Prop where
  w : Wds o 8
  cw : W64 c
  z : ∀ k, i + 4 ≤ k → k < 8 → o k = 0
  e : Q o 8 + c * 18446744073709551616 ^ (i + j) = Q f i * Q g 4 + f i * Q g j * 18446744073709551616 ^ i

theorem TI.step {f g : Nat → Int} {i j : Nat} {o : Nat → Int} {c : Int} (h : TI f g i j o c) (hf : Wds f 4) (hg : Wds g 4) (hi : i < 4) (hj : j < 4) :
    TI f g i (j + 1) (upd o (i + j) ((f i * g j + o (i + j) + c) % 18446744073709551616)) ((f i * g j + o (i + j) + c) / 18446744073709551616) := by
  have hfi := hf i hi
  have hgj := hg j hj
  have ho := h.w (i + j) (by omega)
  have hc := h.cw
  unfold W64 at hfi hgj ho hc
  have p0 : 0 ≤ f i * g j := Int.mul_nonneg hfi.1 hgj.1
  have p1 : f i * g j ≤ 18446744073709551615 * 18446744073709551615 := Int.mul_le_mul (by omega) (by omega) hgj.1 (by omega)
  refine ⟨fun k hk => ?_, ⟨by omega, by omega⟩, fun k h1 h2 => ?_, ?_⟩
  · unfold upd
    by_cases e : k = i + j
    · rw [if_pos e]; exact ⟨by omega, by omega⟩
    · rw [if_neg e]; exact h.w k hk
  · unfold upd
    rw [if_neg (by omega)]
    exact h.z k h1 h2
  · rw [Q_upd o (i + j) _ 8 (by omega)]
    have he := h.e
    have hp : (18446744073709551616 : Int) ^ (i + (j + 1)) = 18446744073709551616 * 18446744073709551616 ^ (i + j) := p64s (i + j)
    rw [hp]
    have hq : Q g (j + 1) = Q g j + g j * 18446744073709551616 ^ j := rfl
    rw [hq]
    have hx : (18446744073709551616 : Int) ^ (i + j) = 18446744073709551616 ^ i * 18446744073709551616 ^ j := Int.pow_add _ _ _
    have e1 : f i * (Q g j + g j * 18446744073709551616 ^ j) * 18446744073709551616 ^ i = f i * Q g j * 18446744073709551616 ^ i + f i * g j * 18446744073709551616 ^ (i + j) := by
      rw [hx, Int.mul_add, Int.add_mul]
      congr 1
      rw [← Int.mul_assoc, Int.mul_assoc, Int.mul_comm (18446744073709551616 ^ j)]
    rw [e1]
    generalize f i * g j = P at *
    generalize (18446744073709551616 : Int) ^ (i + j) = X at *
    have e2 : (P + o (i + j) + c) % 18446744073709551616 = P + o (i + j) + c - 18446744073709551616 * ((P + o (i + j) + c) / 18446744073709551616) := by omega
    rw [e2]
    generalize (P + o (i + j) + c) / 18446744073709551616 = D
    have e3 : (P + o (i + j) + c - 18446744073709551616 * D - o (i + j)) * X = P * X + c * X - D * (18446744073709551616 * X) := by
      rw [show P + o (i + j) + c - 18446744073709551616 * D - o (i + j) = P + c - 18446744073709551616 * D by omega, Int.sub_mul, Int.add_mul, Int.mul_comm 18446744073709551616 D, Int.mul_assoc]
    rw [e3]
    omega

theorem TI.row {f g : Nat → Int} {i : Nat} {o : Nat → Int} {c : Int} (h : TI f g i 4 o c) (hi : i < 4) : TI f g (i + 1) 0 (upd o (i + 4) c) 0 := by
  refine ⟨fun k hk => ?_, ⟨by decide, by decide⟩, fun k h1 h2 => ?_, ?_⟩
  · unfold upd
    by_cases e : k = i + 4
    · rw [if_pos e]; exact h.cw
    · rw [if_neg e]; exact h.w k hk
  · unfold upd
    rw [if_neg (by omega)]
    exact h.z k (by omega) h2
  · rw [Q_upd o (i + 4) _ 8 (by omega), h.z (i + 4) (by omega) (by omega)]
    have he := h.e
    have hq : Q f (i + 1) = Q f i + f i * 18446744073709551616 ^ i := rfl
    have h0 : Q g 0 = 0 := rfl
    rw [hq, h0, Int.mul_zero, Int.zero_mul, Int.add_mul, Int.sub_zero, Int.mul_assoc (f i), Int.mul_comm (18446744073709551616 ^ i) (Q g 4), ← Int.mul_assoc]
    omega

theorem TI.start (f g : Nat → Int) : TI f g 0 0 (fun _ => 0) 0 := by
  refine ⟨fun k _ => ⟨Int.le_refl 0, (by decide : (0 : Int) < 18446744073709551616)⟩, ⟨by decide, by decide⟩, fun _ _ _ => rfl, ?_⟩
  have h0 : Q f 0 = 0 := rfl
  have h1 : Q g 0 = 0 := rfl
  have h2 : Q (fun _ => 0) 8 = 0 := by decide
  rw [h0, h1, h2]
  simp

theorem TI.done {f g : Nat → Int} {o : Nat → Int} {c : Int} (h : TI f g 4 0 o c) (hc : c = 0) : arr 8 o = arr 8 (d64 (Q f 4 * Q g 4)) := by
  have he := h.e
  have h1 : Q g 0 = 0 := rfl
  rw [hc, h1, Int.zero_mul, Int.mul_zero, Int.zero_mul, Int.add_zero, Int.add_zero] at he
  have hb := Q_bd h.w
  refine arr_congr (Q_inj h.w (d64_wds _ 8) ?_)
  rw [← he, d64_Q _ hb.1, Int.emod_eq_of_lt hb.1 hb.2]

set_option maxRecDepth 100000 in
set_option maxHeartbeats 2000000 in
theorem times_any (f g : Nat → Int) (w : World) (hf : Wds f 4) (hg : Wds g 4) :
    Calls Tryz.prog 66 #[.agg (arr 4 f), .agg (arr 4 g)] w fun x w' => x = .returned (.agg (arr 8 (d64 (Q f 4 * Q g 4)))) ∧ Below w.heap.size w w' := by
  go_enter Tryz.func66, Tryz.ntmps66
  go_wp2
  rw [show #[Value.int IntKind.u64 0, Value.int IntKind.u64 0, Value.int IntKind.u64 0, Value.int IntKind.u64 0, Value.int IntKind.u64 0, Value.int IntKind.u64 0, Value.int IntKind.u64 0, Value.int IntKind.u64 0] = arr 8 (fun _ => 0) from rfl]
  have R1 : Row ((((w.alloc (.cells (arr 4 f) 32)).alloc (.cells (arr 4 g) 32)).alloc (.cells (arr 8 fun _ => 0) 68)).alloc (.cells (arr 8 fun _ => 0) 68)) w.heap.size 32 4 f := (((Row.new w 32 4 f).alloc _).alloc _).alloc _
  have R2 : Row ((((w.alloc (.cells (arr 4 f) 32)).alloc (.cells (arr 4 g) 32)).alloc (.cells (arr 8 fun _ => 0) 68)).alloc (.cells (arr 8 fun _ => 0) 68)) (w.heap.size + 1) 32 4 g := ((Row.new' _ 32 4 _ (by simp)).alloc _).alloc _
  have R3 : Row ((((w.alloc (.cells (arr 4 f) 32)).alloc (.cells (arr 4 g) 32)).alloc (.cells (arr 8 fun _ => 0) 68)).alloc (.cells (arr 8 fun _ => 0) 68)) (w.heap.size + 1 + 1) 68 8 (fun _ => 0) := (Row.new' _ 68 8 _ (by simp)).alloc _
  have R4 : Row ((((w.alloc (.cells (arr 4 f) 32)).alloc (.cells (arr 4 g) 32)).alloc (.cells (arr 8 fun _ => 0) 68)).alloc (.cells (arr 8 fun _ => 0) 68)) (w.heap.size + 1 + 1 + 1) 68 8 (fun _ => 0) := Row.new' _ 68 8 _ (by simp)
  have O : Below w.heap.size w ((((w.alloc (.cells (arr 4 f) 32)).alloc (.cells (arr 4 g) 32)).alloc (.cells (arr 8 fun _ => 0) 68)).alloc (.cells (arr 8 fun _ => 0) 68)) := ((((Below.refl _ _).alloc (Nat.le_refl _) _).alloc (by simp) _).alloc (by simp; omega) _).alloc (by simp; omega) _
  generalize ((((w.alloc (.cells (arr 4 f) 32)).alloc (.cells (arr 4 g) 32)).alloc (.cells (arr 8 fun _ => 0) 68)).alloc (.cells (arr 8 fun _ => 0) 68)) = W at R1 R2 R3 R4 O ⊢
  go_loopw [9] (fun x wr => ∃ i : Nat, i ≤ 4 ∧ x = .int .i64 i ∧ Row wr w.heap.size 32 4 f ∧ Row wr (w.heap.size + 1) 32 4 g ∧ Row wr (w.heap.size + 1 + 1) 68 8 (fun _ => 0) ∧ (∃ o, TI f g i 0 o 0 ∧ Row wr (w.heap.size + 1 + 1 + 1) 68 8 o) ∧ Below w.heap.size w wr) (fun x _ => 4 - (intOf x).toNat)
  case atStart => exact ⟨0, by omega, rfl, R1, R2, R3, ⟨_, TI.start f g, R4⟩, O⟩
  case round =>
    clear R1 R2 R3 R4 O
    obtain ⟨i, hi, rfl, R1, R2, R3, ⟨o, T, R4⟩, O⟩ := hrel
    by_cases hlt : i < 4
    · have HT := hide T
      clear T
      have i2 : (i : Int) < 4 := by omega
      go_wp2
      go_loopw [7, 12] (fun z y wq => ∃ j : Nat, j ≤ 4 ∧ y = .int .i64 j ∧ Row wq w.heap.size 32 4 f ∧ Row wq (w.heap.size + 1) 32 4 g ∧ Row wq (w.heap.size + 1 + 1) 68 8 (fun _ => 0) ∧ (∃ o c, TI f g i j o c ∧ z = .int .u64 c ∧ Row wq (w.heap.size + 1 + 1 + 1) 68 8 o) ∧ Below w.heap.size w wq) (fun _ y _ => 4 - (intOf y).toNat)
      case atStart => exact ⟨0, by omega, rfl, R1, R2, R3, ⟨o, 0, HT.out, rfl, R4⟩, O⟩
      case round =>
        clear R1 R2 R3 R4 O HT
        clear o
        obtain ⟨j, hj, rfl, R1, R2, R3, ⟨o, c, T, rfl, R4⟩, O⟩ := hrel
        by_cases hjl : j < 4
        · have d1 := R1.cell hlt
          have d2 := R2.cell hjl
          have d3 := R4.cell (i := i + j) (by omega)
          have fr := R4.free
          have i1 : (0 : Int) ≤ (i : Int) := by omega
          have j1 : (0 : Int) ≤ (j : Int) := by omega
          have j2 : (j : Int) < 4 := by omega
          have s1 : (0 : Int) ≤ (i : Int) + (j : Int) := by omega
          have s2 : (i : Int) + (j : Int) < 8 := by omega
          have s3 : IntKind.i64.wrap ((i : Int) + (j : Int)) = (i : Int) + (j : Int) := by rw [IntKind.wrap_i64]; omega
          have s4 : ((i : Int) + (j : Int)).toNat = i + j := by omega
          have HP := hide fun w => productAnd_any (f i) (g j) (o (i + j)) c w (hf i hlt) (hg j hjl) (T.w (i + j) (by omega)) T.cw
          have HT := hide (T.step hf hg hlt hjl)
          clear T
          go_wp2_with fail
          go_region_with (go_at_call 102; refine (HP.out _).mono ?_; rintro _ w9 ⟨rfl, rfl⟩)
          all_goals
            go_wp2
            go_roundw
            case rel => first | exact ⟨j + 1, by omega, by go_num, rowD (R1.other (a := ⟨w.heap.size + 1 + 1 + 1, i + j, none⟩) (by simp <;> omega) _), rowD (R2.other (a := ⟨w.heap.size + 1 + 1 + 1, i + j, none⟩) (by simp <;> omega) _), rowD (R3.other (a := ⟨w.heap.size + 1 + 1 + 1, i + j, none⟩) (by simp) _), ⟨_, _, HT.out, rfl, rowD (R4.set (i + j) _)⟩, (O.setCell (p := ⟨w.heap.size + 1 + 1 + 1, i + j, none⟩) (by simp <;> omega) _).drew⟩ | exact ⟨_, _, _, _, _, _, _, _, _, _, _, _, _, _, _, _, _, _, _, _, _, _, _, _, _, _, ⟨j + 1, by omega, by go_num, rowD (R1.other (a := ⟨w.heap.size + 1 + 1 + 1, i + j, none⟩) (by simp <;> omega) _), rowD (R2.other (a := ⟨w.heap.size + 1 + 1 + 1, i + j, none⟩) (by simp <;> omega) _), rowD (R3.other (a := ⟨w.heap.size + 1 + 1 + 1, i + j, none⟩) (by simp) _), ⟨_, _, HT.out, rfl, rowD (R4.set (i + j) _)⟩, (O.setCell (p := ⟨w.heap.size + 1 + 1 + 1, i + j, none⟩) (by simp <;> omega) _).drew⟩, rfl⟩
            case measure => simp [intOf]; omega
        · have hj' : j = 4 := by omega
          subst hj'
          have HT := hide (T.row hlt)
          have d3 := R4.cell (i := i + 4) (by omega)
          have fr := R4.free
          have i1 : (0 : Int) ≤ (i : Int) := by omega
          have R1' := hide (R1.other (a := ⟨w.heap.size + 1 + 1 + 1, i + 4, none⟩) (by simp <;> omega) (.int .u64 c))
          have R2' := hide (R2.other (a := ⟨w.heap.size + 1 + 1 + 1, i + 4, none⟩) (by simp <;> omega) (.int .u64 c))
          have R3' := hide (R3.other (a := ⟨w.heap.size + 1 + 1 + 1, i + 4, none⟩) (by simp) (.int .u64 c))
          have R4' := hide (R4.set (i + 4) c)
          have O' := hide (O.setCell (p := ⟨w.heap.size + 1 + 1 + 1, i + 4, none⟩) (by simp <;> omega) (.int .u64 c))
          clear R1 R2 R3 R4 O T
          go_wp2
          exact ⟨⟨i + 1, by omega, by go_num, R1'.out, R2'.out, R3'.out, ⟨_, HT.out, R4'.out⟩, O'.out⟩, by simp [intOf]; omega⟩
    · have hi' : i = 4 := by omega
      subst hi'
      have HE := hide (T.done rfl)
      have RR := hide (R3.setAll o)
      have OO := hide (below_setCells (g := w.heap.size + 1 + 1) (by omega) (arr 8 o).toList 0 O)
      have HX := hide R4
      clear R4 O R1 R2 T
      go_wp2_with (first | (refine wpList_load_row rfl 68 _ rfl (w.heap.size + 1 + 1 + 1) rfl 68 (arr 8 o) (0, 0) _ HX.out Tryz.underlying68 rfl (info68 _) ?_) | (refine wpList_store_mid rfl 68 _ _ rfl (w.heap.size + 1 + 1) 0 (arr 8 o) rfl rfl ?tht (info68 _) (arr_one _ _) ?_))
      case tht => rw [arr_size]; exact R3.there
      exact bodyPost_ret (v := .agg (arr 8 o)) (results_cell_row Tryz.results66 _ _ (w.heap.size + 1 + 1) 68 (arr 8 o) (0, 0) _ rfl RR.out Tryz.underlying68 rfl (info68 _)) rfl ⟨by rw [HE.out], OO.out⟩

end Go.Proofs.YtkeocdebfgcnnaaGreat.Ord

/- The contracts of text, words, Bytes: the 32 bytes of a number, the lowest first. -/
namespace Go.Proofs.YtkeocdebfgcnnaaGreat.Ord
open Go.RowKit

/-- Bytes as a string. -/
def bs (ns : List Int) : ByteArray := ⟨(ns.map fun n => UInt8.ofNat n.toNat).toArray⟩

theorem bs_fold (ns : List Int) : ∀ s : ByteArray, ns.foldl (fun r n => r.push (UInt8.ofNat n.toNat)) s = ⟨s.data ++ (ns.map fun n => UInt8.ofNat n.toNat).toArray⟩ := by
  induction ns with
  | nil => intro s; simp
  | cons n ns ih =>
    intro s
    rw [List.foldl_cons, ih]
    simp [ByteArray.push]

theorem conv_bytes (W : World) (g : Nat) (T : TypeId) (ns : List Int) (l cap : Nat) (fr : Nat × Nat) (hg : W.heap[g]? = some (.cells (ns.map (Value.int .u8)).toArray T fr)) (hl : ns.length = l) :
    (convert 70 9 (.slice (some ⟨g, 0, none⟩) l cap)).run Tryz.prog W = .ok (.string (bs ns)) W := by
  subst hl
  rw [run_convert_bytes_string W 70 9 5 (some ⟨g, 0, none⟩) ns.length cap Tryz.underlying70 Tryz.underlying5 Tryz.underlying9]
  have h := run_loadCells_list (P := Tryz.prog) W ⟨g, 0, none⟩ (ns.map (Value.int .u8)) (fun j v hv => by
    have hadd : (⟨g, 0, none⟩ : Addr).add j = ⟨g, j, none⟩ := by unfold Addr.add; split <;> simp_all
    rw [hadd, cell_of_row W g j _ T fr hg]
    simpa using hv)
  rw [List.length_map] at h
  have he : ByteArray.empty.data = #[] := rfl
  rw [run_bytesToString W _ ns.length cap ns h, bs_fold, he]
  simp [bs]

/-- The eight bytes of a word. -/
def digs (a : Int) : List Int := [a % 256, a / 256 % 256, a / 65536 % 256, a / 16777216 % 256, a / 4294967296 % 256, a / 1099511627776 % 256, a / 281474976710656 % 256, a / 72057594037927936 % 256]

/-- The 32 bytes of a number. -/
def lebytes (n : Int) : ByteArray := bs (digs (n % 18446744073709551616) ++ digs (n / 18446744073709551616 % 18446744073709551616) ++ digs (n / 340282366920938463463374607431768211456 % 18446744073709551616) ++ digs (n / 6277101735386680763835789423207666416102355444464034512896 % 18446744073709551616))

set_option maxRecDepth 100000 in
set_option maxHeartbeats 4000000 in
theorem text_any (a b c d : Int) (w : World) :
    Calls Tryz.prog 86 #[.agg #[.int .u64 a, .int .u64 b, .int .u64 c, .int .u64 d]] w fun r w' => r = .returned (.string (bs (digs a ++ digs b ++ digs c ++ digs d))) ∧ Below w.heap.size w w' := by
  go_enter Tryz.func86, Tryz.ntmps86
  go_wp2
  refine wp_loop_rounds 33 ?_
  iterate 33 (rw [rounds_succ]; go_wp2)
  have hcv : (convert 70 9 (.slice (some ⟨w.heap.size + 1, 0, none⟩) 32 32)).run Tryz.prog ((w.alloc (.cells #[.int .u64 a, .int .u64 b, .int .u64 c, .int .u64 d] 32)).alloc (.cells #[.int .u8 (a % 256), .int .u8 (a / 256 % 256), .int .u8 (a / 65536 % 256), .int .u8 (a / 16777216 % 256), .int .u8 (a / 4294967296 % 256), .int .u8 (a / 1099511627776 % 256), .int .u8 (a / 281474976710656 % 256), .int .u8 (a / 72057594037927936 % 256), .int .u8 (b % 256), .int .u8 (b / 256 % 256), .int .u8 (b / 65536 % 256), .int .u8 (b / 16777216 % 256), .int .u8 (b / 4294967296 % 256), .int .u8 (b / 1099511627776 % 256), .int .u8 (b / 281474976710656 % 256), .int .u8 (b / 72057594037927936 % 256), .int .u8 (c % 256), .int .u8 (c / 256 % 256), .int .u8 (c / 65536 % 256), .int .u8 (c / 16777216 % 256), .int .u8 (c / 4294967296 % 256), .int .u8 (c / 1099511627776 % 256), .int .u8 (c / 281474976710656 % 256), .int .u8 (c / 72057594037927936 % 256), .int .u8 (d % 256), .int .u8 (d / 256 % 256), .int .u8 (d / 65536 % 256), .int .u8 (d / 16777216 % 256), .int .u8 (d / 4294967296 % 256), .int .u8 (d / 1099511627776 % 256), .int .u8 (d / 281474976710656 % 256), .int .u8 (d / 72057594037927936 % 256)] 96)) = .ok (.string (bs (digs a ++ digs b ++ digs c ++ digs d))) _ := conv_bytes _ (w.heap.size + 1) 96 (digs a ++ digs b ++ digs c ++ digs d) 32 32 (0, 0) (heap_alloc2_new w _ _) rfl
  rw [hcv]
  clear hcv
  generalize hB : bs (digs a ++ digs b ++ digs c ++ digs d) = B
  have HB := hide hB
  clear hB
  go_wp2
  go_ret
  exact ⟨by rw [HB.out]; rfl, ((Below.refl _ _).alloc (Nat.le_refl _) _).alloc (by simp) _⟩

end Go.Proofs.YtkeocdebfgcnnaaGreat.Ord

/- The contracts of the scalars' Mul, Same and Bytes. -/
namespace Go.Proofs.YtkeocdebfgcnnaaGreat.Ord
open Go.RowKit

theorem prod_Q {M N : Int} (hM : 0 ≤ M ∧ M < Lm) (hN : 0 ≤ N ∧ N < Lm) : Q (d64 (M * N)) 8 = M * N := by
  have h0 : 0 ≤ M * N := Int.mul_nonneg hM.1 hN.1
  have h1 : M * N ≤ Lm * Lm := Int.mul_le_mul (by omega) (by omega) hN.1 (by decide)
  have h2 : Lm * Lm < 18446744073709551616 ^ 8 := by decide
  rw [d64_Q _ h0, Int.emod_eq_of_lt h0 (by omega)]

set_option maxRecDepth 100000 in
set_option maxHeartbeats 1000000 in
theorem mul_any (M N : Int) (w : World) (hM : 0 ≤ M ∧ M < Lm) (hN : 0 ≤ N ∧ N < Lm) :
    Calls Tryz.prog 22 #[.agg (arr 4 (d64 M)), .agg (arr 4 (d64 N))] w fun x w' => x = .returned (.agg (arr 4 (d64 (M * N % Lm)))) ∧ Below w.heap.size w w' := by
  have C1 : Hid (∀ w, Calls Tryz.prog 66 #[.agg (arr 4 (d64 M)), .agg (arr 4 (d64 N))] w fun x w' => x = .returned (.agg (arr 8 (d64 (M * N)))) ∧ Below w.heap.size w w') := hide fun w => by
    have := times_any (d64 M) (d64 N) w (d64_wds _ 4) (d64_wds _ 4)
    rwa [dQ hM, dQ hN] at this
  have C2 : Hid (∀ w, Calls Tryz.prog 32 #[.agg (arr 8 (d64 (M * N)))] w fun x w' => x = .returned (.agg (arr 4 (d64 (M * N % Lm)))) ∧ Below w.heap.size w w') := hide fun w => by
    have := modulo_any (d64 (M * N)) w (d64_wds _ 8)
    rwa [prod_Q hM hN] at this
  have R1 : Row (((w.alloc (.cells (arr 4 (d64 M)) 34)).alloc (.cells (arr 4 (d64 N)) 34)).alloc (.cells (arr 4 fun _ => 0) 34)) w.heap.size 34 4 (d64 M) := ((Row.new w 34 4 _).alloc _).alloc _
  have R2 : Row (((w.alloc (.cells (arr 4 (d64 M)) 34)).alloc (.cells (arr 4 (d64 N)) 34)).alloc (.cells (arr 4 fun _ => 0) 34)) (w.heap.size + 1) 34 4 (d64 N) := (Row.new' _ 34 4 _ (by simp)).alloc _
  have R3 : Row (((w.alloc (.cells (arr 4 (d64 M)) 34)).alloc (.cells (arr 4 (d64 N)) 34)).alloc (.cells (arr 4 fun _ => 0) 34)) (w.heap.size + 1 + 1) 34 4 (fun _ => 0) := Row.new' _ 34 4 _ (by simp)
  have O : Below w.heap.size w (((w.alloc (.cells (arr 4 (d64 M)) 34)).alloc (.cells (arr 4 (d64 N)) 34)).alloc (.cells (arr 4 fun _ => 0) 34)) := (((Below.refl _ _).alloc (Nat.le_refl _) _).alloc (by simp) _).alloc (by simp; omega) _
  have HR := hide (And.intro R1 (And.intro R2 (And.intro R3 O)))
  clear R1 R2 R3 O
  generalize d64 (M * N) = p at *
  generalize M * N % Lm = V at *
  go_enter Tryz.func22, Tryz.ntmps22
  go_wp2_with (first | (refine wpList_load_row rfl 32 _ rfl w.heap.size rfl 34 (arr 4 (d64 M)) (0, 0) _ HR.out.1 Tryz.underlying32 rfl (info32 _) ?_) | (refine wpList_load_row rfl 32 _ rfl (w.heap.size + 1) rfl 34 (arr 4 (d64 N)) (0, 0) _ HR.out.2.1 Tryz.underlying32 rfl (info32 _) ?_))
  refine (C1.out _).mono ?_
  rintro _ w1 ⟨rfl, hb1⟩
  have R3 := HR.out.2.2.1.keep hb1
  have O := HR.out.2.2.2.trans (hb1.mono HR.out.2.2.2.size)
  clear hb1 HR
  go_wp2_with fail
  refine (C2.out _).mono ?_
  rintro _ w2 ⟨rfl, hb2⟩
  replace R3 := R3.keep hb2
  replace O := O.trans (hb2.mono O.size)
  clear hb2
  have RR := hide (R3.setAll (d64 V))
  have OO := hide (below_setCells (g := w.heap.size + 1 + 1) (by omega) (arr 4 (d64 V)).toList 0 O)
  clear O
  go_wp2_with (refine wpList_store_mid rfl 34 _ _ rfl (w.heap.size + 1 + 1) 0 (arr 4 (d64 V)) rfl rfl ?thn (info34 _) (arr_one _ _) ?_)
  case thn => rw [arr_size]; exact R3.there
  exact bodyPost_ret (v := .agg (arr 4 (d64 V))) (results_cell_row Tryz.results22 _ _ (w.heap.size + 1 + 1) 34 (arr 4 (d64 V)) (0, 0) _ rfl RR.out Tryz.underlying34 rfl (info34 _)) rfl ⟨rfl, OO.out⟩

theorem leb_d64 (N : Int) : lebytes N = bs (digs (d64 N 0) ++ digs (d64 N 1) ++ digs (d64 N 2) ++ digs (d64 N 3)) := by
  have e0 : d64 N 0 = N % 18446744073709551616 := by simp [d64]
  have e1 : d64 N 1 = N / 18446744073709551616 % 18446744073709551616 := by simp [d64]
  have e2 : d64 N 2 = N / 340282366920938463463374607431768211456 % 18446744073709551616 := by simp [d64]
  have e3 : d64 N 3 = N / 6277101735386680763835789423207666416102355444464034512896 % 18446744073709551616 := by simp [d64]
  rw [e0, e1, e2, e3]
  rfl

set_option maxRecDepth 100000 in
set_option maxHeartbeats 1000000 in
theorem bytes_any (N : Int) (w : World) :
    Calls Tryz.prog 56 #[.agg (arr 4 (d64 N))] w fun x w' => x = .returned (.string (lebytes N)) ∧ Below w.heap.size w w' := by
  have C1 : Hid (∀ w, Calls Tryz.prog 86 #[.agg (arr 4 (d64 N))] w fun x w' => x = .returned (.string (lebytes N)) ∧ Below w.heap.size w w') := hide fun w => by
    rw [leb_d64]
    exact text_any (d64 N 0) (d64 N 1) (d64 N 2) (d64 N 3) w
  have HR := hide (And.intro (Row.new w 34 4 (d64 N)) (new_below w (.cells (arr 4 (d64 N)) 34)))
  generalize lebytes N = B at *
  go_enter Tryz.func56, Tryz.ntmps56
  go_wp2_with (refine wpList_load_row rfl 32 _ rfl w.heap.size rfl 34 (arr 4 (d64 N)) (0, 0) _ HR.out.1 Tryz.underlying32 rfl (info32 _) ?_)
  refine (C1.out _).mono ?_
  rintro _ w1 ⟨rfl, hb1⟩
  have O := HR.out.2.trans (hb1.mono HR.out.2.size)
  clear hb1 HR
  go_wp2
  go_ret
  exact ⟨rfl, O⟩

end Go.Proofs.YtkeocdebfgcnnaaGreat.Ord

/- The contracts of wordsOf, number and Of: which number 32 bytes are. -/
namespace Go.Proofs.YtkeocdebfgcnnaaGreat.Ord
open Go.RowKit

/-- Byte i of a string, as a number. -/
def bt (s : ByteArray) (i : Nat) : Int := ((s.data[i]?.getD 0).toNat : Int)

theorem bt_bd (s : ByteArray) (i : Nat) : 0 ≤ bt s i ∧ bt s i < 256 := by
  unfold bt
  have := (s.data[i]?.getD 0).toNat_lt
  omega

/-- The first r bytes of word j. -/
def sw (s : ByteArray) (j : Nat) : Nat → Int
  | 0 => 0
  | r + 1 => sw s j r + bt s (8 * j + r) * 256 ^ r

theorem sw_bd (s : ByteArray) (j r : Nat) : 0 ≤ sw s j r ∧ sw s j r < 256 ^ r := by
  induction r with
  | zero => simp [sw]
  | succ r ih =>
    have hb := bt_bd s (8 * j + r)
    have hp : (0 : Int) < 256 ^ r := Int.pow_pos (by decide)
    have h1 : bt s (8 * j + r) * 256 ^ r ≤ 255 * 256 ^ r := Int.mul_le_mul_of_nonneg_right (by omega) (by omega)
    have h2 : 0 ≤ bt s (8 * j + r) * 256 ^ r := Int.mul_nonneg hb.1 (by omega)
    have h3 : (256 : Int) ^ (r + 1) = 256 * 256 ^ r := by rw [Int.pow_succ, Int.mul_comm]
    simp only [sw]
    omega

theorem swor0 (s : ByteArray) (j i : Nat) (hi : i = 8 * j + 0) : bits BinOp.or IntKind.u64 0 (bt s i) = sw s j 1 := by
  have hb := bt_bd s i
  rw [or_join 8 256 (by decide) ⟨by decide, by decide⟩ ⟨hb.1, by omega⟩ (by decide) (by omega)]
  simp [sw, hi]

theorem swor1 (s : ByteArray) (j i : Nat) (hi : i = 8 * j + 1) : bits BinOp.or IntKind.u64 (sw s j 1) (bt s i * 256) = sw s j 2 := by
  have hb := bt_bd s i
  have hs := sw_bd s j 1
  have e : (256 : Int) ^ 1 = 256 := by decide
  rw [e] at hs
  rw [or_join' 8 256 (by decide) ⟨hs.1, by omega⟩ ⟨by omega, by omega⟩ (by omega) (by omega)]
  show _ = sw s j 1 + bt s (8 * j + 1) * 256 ^ 1
  rw [e, hi]

theorem swor2 (s : ByteArray) (j i : Nat) (hi : i = 8 * j + 2) : bits BinOp.or IntKind.u64 (sw s j 2) (bt s i * 65536) = sw s j 3 := by
  have hb := bt_bd s i
  have hs := sw_bd s j 2
  have e : (256 : Int) ^ 2 = 65536 := by decide
  rw [e] at hs
  rw [or_join' 16 65536 (by decide) ⟨hs.1, by omega⟩ ⟨by omega, by omega⟩ (by omega) (by omega)]
  show _ = sw s j 2 + bt s (8 * j + 2) * 256 ^ 2
  rw [e, hi]

theorem swor3 (s : ByteArray) (j i : Nat) (hi : i = 8 * j + 3) : bits BinOp.or IntKind.u64 (sw s j 3) (bt s i * 16777216) = sw s j 4 := by
  have hb := bt_bd s i
  have hs := sw_bd s j 3
  have e : (256 : Int) ^ 3 = 16777216 := by decide
  rw [e] at hs
  rw [or_join' 24 16777216 (by decide) ⟨hs.1, by omega⟩ ⟨by omega, by omega⟩ (by omega) (by omega)]
  show _ = sw s j 3 + bt s (8 * j + 3) * 256 ^ 3
  rw [e, hi]

theorem swor4 (s : ByteArray) (j i : Nat) (hi : i = 8 * j + 4) : bits BinOp.or IntKind.u64 (sw s j 4) (bt s i * 4294967296) = sw s j 5 := by
  have hb := bt_bd s i
  have hs := sw_bd s j 4
  have e : (256 : Int) ^ 4 = 4294967296 := by decide
  rw [e] at hs
  rw [or_join' 32 4294967296 (by decide) ⟨hs.1, by omega⟩ ⟨by omega, by omega⟩ (by omega) (by omega)]
  show _ = sw s j 4 + bt s (8 * j + 4) * 256 ^ 4
  rw [e, hi]

theorem swor5 (s : ByteArray) (j i : Nat) (hi : i = 8 * j + 5) : bits BinOp.or IntKind.u64 (sw s j 5) (bt s i * 1099511627776) = sw s j 6 := by
  have hb := bt_bd s i
  have hs := sw_bd s j 5
  have e : (256 : Int) ^ 5 = 1099511627776 := by decide
  rw [e] at hs
  rw [or_join' 40 1099511627776 (by decide) ⟨hs.1, by omega⟩ ⟨by omega, by omega⟩ (by omega) (by omega)]
  show _ = sw s j 5 + bt s (8 * j + 5) * 256 ^ 5
  rw [e, hi]

theorem swor6 (s : ByteArray) (j i : Nat) (hi : i = 8 * j + 6) : bits BinOp.or IntKind.u64 (sw s j 6) (bt s i * 281474976710656) = sw s j 7 := by
  have hb := bt_bd s i
  have hs := sw_bd s j 6
  have e : (256 : Int) ^ 6 = 281474976710656 := by decide
  rw [e] at hs
  rw [or_join' 48 281474976710656 (by decide) ⟨hs.1, by omega⟩ ⟨by omega, by omega⟩ (by omega) (by omega)]
  show _ = sw s j 6 + bt s (8 * j + 6) * 256 ^ 6
  rw [e, hi]

theorem swor7 (s : ByteArray) (j i : Nat) (hi : i = 8 * j + 7) : bits BinOp.or IntKind.u64 (sw s j 7) (bt s i * 72057594037927936) = sw s j 8 := by
  have hb := bt_bd s i
  have hs := sw_bd s j 7
  have e : (256 : Int) ^ 7 = 72057594037927936 := by decide
  rw [e] at hs
  rw [or_join' 56 72057594037927936 (by decide) ⟨hs.1, by omega⟩ ⟨by omega, by omega⟩ (by omega) (by omega)]
  show _ = sw s j 7 + bt s (8 * j + 7) * 256 ^ 7
  rw [e, hi]

end Go.Proofs.YtkeocdebfgcnnaaGreat.Ord

/- The contract of the document's Of: bytes, bit by bit, modulo the order. -/
namespace Go.Proofs.YtkeocdebfgcnnaaGreat.Ord
open Go.RowKit

/-- Bit i of a string. -/
def bit (s : ByteArray) (i : Nat) : Int := bt s (i / 8) / 2 ^ (i % 8) % 2
end Go.Proofs.YtkeocdebfgcnnaaGreat.Ord

/- Bytes and their number: what the document's Of makes of them is that number modulo the order. -/
namespace Go.Proofs.YtkeocdebfgcnnaaGreat.Ord
open Go.RowKit

/-- The number of the first k bytes. -/
def bv (s : ByteArray) : Nat → Int
  | 0 => 0
  | k + 1 => bv s k + bt s k * 256 ^ k

theorem p8 (n : Nat) : (0 : Int) < 256 ^ n := Int.pow_pos (by decide)
theorem p8s (n : Nat) : (256 : Int) ^ (n + 1) = 256 * 256 ^ n := by rw [Int.pow_succ, Int.mul_comm]

theorem bv_bd (s : ByteArray) : ∀ k, 0 ≤ bv s k ∧ bv s k < 256 ^ k
  | 0 => by simp [bv]
  | k + 1 => by
    have ih := bv_bd s k
    have hb := bt_bd s k
    have hp := p8 k
    have h1 : bt s k * 256 ^ k ≤ 255 * 256 ^ k := Int.mul_le_mul_of_nonneg_right (by omega) (by omega)
    have h2 : 0 ≤ bt s k * 256 ^ k := Int.mul_nonneg hb.1 (by omega)
    rw [p8s]
    simp only [bv]
    omega

theorem bv_split (s : ByteArray) (j : Nat) : ∀ k, ∃ q : Int, bv s (j + 1 + k) = bv s j + 256 ^ j * (bt s j + 256 * q)
  | 0 => ⟨0, by show bv s j + bt s j * 256 ^ j = _; rw [Int.mul_zero, Int.add_zero, Int.mul_comm]⟩
  | k + 1 => by
    obtain ⟨q, hq⟩ := bv_split s j k
    refine ⟨q + bt s (j + 1 + k) * 256 ^ k, ?_⟩
    show bv s (j + 1 + k) + bt s (j + 1 + k) * 256 ^ (j + 1 + k) = _
    rw [hq, Int.pow_add, Int.pow_succ, Int.mul_add 256 q, ← Int.add_assoc (bt s j), Int.mul_add (256 ^ j) (bt s j + 256 * q), ← Int.add_assoc]
    congr 1
    generalize (256 : Int) ^ j = X
    generalize (256 : Int) ^ k = Y
    rw [Int.mul_comm (bt s (j + 1 + k)), Int.mul_assoc X 256 Y, Int.mul_assoc X, Int.mul_assoc 256 Y, Int.mul_comm Y]

theorem bv_at (s : ByteArray) {j m : Nat} (h : j < m) : bv s m / 256 ^ j % 256 = bt s j := by
  obtain ⟨q, hq⟩ := bv_split s j (m - (j + 1))
  rw [show j + 1 + (m - (j + 1)) = m by omega] at hq
  have hp := p8 j
  have hb := bv_bd s j
  have ht := bt_bd s j
  rw [hq, Int.add_mul_ediv_left _ _ (by omega), Int.ediv_eq_zero_of_lt hb.1 hb.2]
  omega

theorem bt_out (s : ByteArray) (i : Nat) (h : s.size ≤ i) : bt s i = 0 := by
  unfold bt
  have h' : s.data.size ≤ i := h
  rw [Array.getElem?_eq_none h']
  rfl

theorem bv_out (s : ByteArray) : ∀ k, bv s (s.size + k) = bv s s.size
  | 0 => rfl
  | k + 1 => by
    show bv s (s.size + k) + bt s (s.size + k) * 256 ^ (s.size + k) = _
    rw [bt_out s _ (by omega), bv_out s k]
    omega

theorem bv_64 (s : ByteArray) (h : s.size ≤ 64) : bv s 64 = bv s s.size := by
  have := bv_out s (64 - s.size)
  rwa [show s.size + (64 - s.size) = 64 by omega] at this

theorem sw_bv (s : ByteArray) (j : Nat) : ∀ r, bv s (8 * j + r) = bv s (8 * j) + 256 ^ (8 * j) * sw s j r
  | 0 => by simp [sw]
  | r + 1 => by
    have ih := sw_bv s j r
    show bv s (8 * j + r) + bt s (8 * j + r) * 256 ^ (8 * j + r) = bv s (8 * j) + 256 ^ (8 * j) * (sw s j r + bt s (8 * j + r) * 256 ^ r)
    rw [ih, Int.pow_add, Int.mul_add, ← Int.add_assoc]
    congr 1
    rw [Int.mul_left_comm]

theorem Q_bv (s : ByteArray) : ∀ n, Q (fun j => sw s j 8) n = bv s (8 * n)
  | 0 => rfl
  | n + 1 => by
    have ih := Q_bv s n
    have e := sw_bv s n 8
    have e2 : (256 : Int) ^ (8 * n) = 18446744073709551616 ^ n := by rw [Int.pow_mul]; rfl
    rw [show 8 * (n + 1) = 8 * n + 8 by omega, e, e2]
    simp only [Q]
    rw [ih, Int.mul_comm]

theorem sw_wds (s : ByteArray) (n : Nat) : Wds (fun j => sw s j 8) n := fun j _ => by
  have := sw_bd s j 8
  have e : (256 : Int) ^ 8 = 18446744073709551616 := by decide
  rw [e] at this
  exact this

/-- The n bytes of a number. -/
def le (N : Int) (n : Nat) : List Int := (List.range n).map fun i => N / 256 ^ i % 256

theorem le_get (N : Int) {n i : Nat} (h : i < n) : (le N n)[i]? = some (N / 256 ^ i % 256) := by simp [le, h]

theorem bs_size (l : List Int) : (bs l).size = l.length := by simp [bs, ByteArray.size]
theorem bt_bs (l : List Int) (i : Nat) (x : Int) (hl : l[i]? = some x) (h0 : 0 ≤ x) (h1 : x < 256) : bt (bs l) i = x := by
  unfold bt bs
  simp only [List.getElem?_toArray, List.getElem?_map, hl, Option.map_some, Option.getD_some]
  simp only [UInt8.toNat_ofNat']
  omega

theorem bt_le (N : Int) {n i : Nat} (h : i < n) : bt (bs (le N n)) i = N / 256 ^ i % 256 := bt_bs _ _ _ (le_get N h) (by omega) (by omega)

theorem bv_le (N : Int) (h0 : 0 ≤ N) (n : Nat) : ∀ k, k ≤ n → bv (bs (le N n)) k = N % 256 ^ k
  | 0, _ => by simp [bv, Int.emod_one]
  | k + 1, h => by
    have ih := bv_le N h0 n k (by omega)
    have hp := p8 k
    show bv (bs (le N n)) k + bt (bs (le N n)) k * 256 ^ k = _
    rw [ih, bt_le N (by omega), Int.pow_succ]
    have e1 := Int.emod_add_mul_ediv N (256 ^ k)
    rw [Int.emod_def N (256 ^ k * 256), ← Int.ediv_ediv_of_nonneg (by omega)]
    generalize N / 256 ^ k = A at *
    have e3 : A % 256 * 256 ^ k = A * 256 ^ k - 256 * (A / 256) * 256 ^ k := by
      rw [← Int.sub_mul]
      congr 1
      omega
    rw [e3]
    generalize A / 256 = B at *
    generalize (256 : Int) ^ k = X at *
    rw [Int.mul_comm A X, show 256 * B * X = X * 256 * B by rw [Int.mul_comm (256 * B) X, ← Int.mul_assoc]]
    omega

end Go.Proofs.YtkeocdebfgcnnaaGreat.Ord

/- Bytes of a string in memory of their own; the contract of doubleOf. -/
namespace Go.Proofs.YtkeocdebfgcnnaaGreat.Ord
open Go.RowKit

/-- Block g holds the bytes f 0 .. f (n - 1), and may be written. -/
structure BC (W : World) (g : Nat) (f : Nat → Int) (n : Nat) : Prop where
  lt : g < W.heap.size
  c : ∀ i, i < n → W.cell? ⟨g, i, none⟩ = some (.int .u8 (f i))
  fz : ∀ i, i < n → W.frozen? ⟨g, i, none⟩ = false

theorem BC.keep {W W' : World} {g n : Nat} {f : Nat → Int} (h : BC W g f n) (hb : Below W.heap.size W W') : BC W' g f n where
  lt := Nat.lt_of_lt_of_le h.lt hb.size
  c := fun i hi => by
    rw [← h.c i hi]
    unfold World.cell?
    rw [hb.block g h.lt]
  fz := fun i hi => by
    rw [← h.fz i hi]
    unfold World.frozen?
    rw [hb.block g h.lt]

theorem BC.alloc {W : World} {g n : Nat} {f : Nat → Int} (h : BC W g f n) (o : Obj) : BC (W.alloc o) g f n := h.keep (new_below W o)

theorem heap_setCell_size (W : World) (a : Addr) (v : Value) : (W.setCell a v).heap.size = W.heap.size := by
  simp

theorem BC.other {W : World} {g n : Nat} {f : Nat → Int} (h : BC W g f n) {a : Addr} (ha : g ≠ a.block) (v : Value) : BC (W.setCell a v) g f n where
  lt := by rw [heap_setCell_size]; exact h.lt
  c := fun i hi => by
    rw [World.cell?_setCell_other _ _ _ _ (by intro e; rw [e] at ha; exact ha rfl), h.c i hi]
  fz := fun i hi => by
    rw [World.frozen?_setCell]
    exact h.fz i hi

theorem BC.drew {W : World} {g n : Nat} {f : Nat → Int} (h : BC W g f n) : BC W.drew g f n := ⟨h.lt, h.c, h.fz⟩
theorem row_frozen (w : World) (g j : Nat) (cs : Array Value) (t : TypeId) (hg : w.heap[g]? = some (.cells cs t (cs.size, cs.size + 1))) (hj : j < cs.size) : w.frozen? ⟨g, j, none⟩ = false := by
  unfold World.frozen?
  rw [hg]
  simp
  omega

/-- A string's bytes in memory of their own. -/
theorem conv_str (W : World) (s : ByteArray) : ∃ (cap : Nat) (W1 : World), (convert 9 70 (.string s)).run Tryz.prog W = .ok (.slice (some ⟨W.heap.size, 0, none⟩) s.size cap) W1 ∧ BC W1 W.heap.size (bt s) s.size ∧ Below W.heap.size W W1 := by
  have h := run_bytes_of_string (P := Tryz.prog) W 9 70 5 s Tryz.underlying9 Tryz.underlying70 Tryz.underlying5
  generalize grownCap W s.size 0 5 = cap at h
  refine ⟨cap, _, h, ?_, ((Below.refl _ _).drew).alloc (Nat.le_refl _) _⟩
  have hg : (W.drew.alloc (.cells (bytesRow s cap) 5 ((bytesRow s cap).size, (bytesRow s cap).size + 1))).heap[W.heap.size]? = some (.cells (bytesRow s cap) 5 ((bytesRow s cap).size, (bytesRow s cap).size + 1)) := heap_alloc_new W.drew _
  have hsz : s.size ≤ (bytesRow s cap).size := by
    simp [bytesRow]
  refine ⟨by simp, fun i hi => ?_, fun i hi => row_frozen _ _ _ _ _ hg (by omega)⟩
  rw [cell_of_row _ _ _ _ _ _ hg]
  have hi' : i < s.data.size := hi
  unfold bytesRow bt
  rw [Array.getElem?_append_left (by simpa using hi'), Array.getElem?_map, Array.getElem?_eq_getElem hi']
  rfl

/-- Of the words the first k bytes. -/
def swk (s : ByteArray) (k : Nat) : Nat → Int := fun j => sw s j (min (k - 8 * j) 8)

theorem swk_at (s : ByteArray) (k : Nat) : swk s k (k / 8) = sw s (k / 8) (k % 8) := by
  unfold swk
  congr 1
  omega

theorem swk_next (s : ByteArray) (k : Nat) (i : Nat) : upd (swk s k) (k / 8) (sw s (k / 8) (k % 8 + 1)) i = swk s (k + 1) i := by
  unfold upd swk
  by_cases h : i = k / 8
  · subst h
    rw [if_pos rfl]
    congr 1
    omega
  · rw [if_neg h]
    congr 1
    omega

theorem sw_stop (s : ByteArray) (j r : Nat) (h : s.size ≤ 8 * j + r) : ∀ d, sw s j (r + d) = sw s j r
  | 0 => rfl
  | d + 1 => by
    show sw s j (r + d) + bt s (8 * j + (r + d)) * 256 ^ (r + d) = _
    rw [bt_out s _ (by omega), sw_stop s j r h d]
    omega

theorem swk_end (s : ByteArray) (j : Nat) : swk s s.size j = sw s j 8 := by
  unfold swk
  by_cases h : s.size ≤ 8 * j + 8
  · have e := sw_stop s j (min (s.size - 8 * j) 8) (by omega) (8 - min (s.size - 8 * j) 8)
    rw [← e]
    congr 1
    omega
  · congr 1
    omega

set_option maxRecDepth 100000 in
set_option maxHeartbeats 4000000 in
theorem dbl_any (s : ByteArray) (g cap : Nat) (w : World) (hs : s.size ≤ 64) (hB : BC w g (bt s) s.size) :
    Calls Tryz.prog 31 #[.slice (some ⟨g, 0, none⟩) s.size cap] w fun r w' => r = .returned (.agg (arr 8 fun j => sw s j 8)) ∧ Below w.heap.size w w' := by
  have hgl := hB.lt
  go_enter Tryz.func31, Tryz.ntmps31
  go_wp2
  rw [show #[Value.int IntKind.u64 0, Value.int IntKind.u64 0, Value.int IntKind.u64 0, Value.int IntKind.u64 0, Value.int IntKind.u64 0, Value.int IntKind.u64 0, Value.int IntKind.u64 0, Value.int IntKind.u64 0] = arr 8 (fun _ => 0) from rfl]
  have R1 : Row ((w.alloc (.cells (arr 8 fun _ => 0) 68)).alloc (.cells (arr 8 fun _ => 0) 68)) w.heap.size 68 8 (fun _ => 0) := (Row.new w 68 8 _).alloc _
  have R2 : Row ((w.alloc (.cells (arr 8 fun _ => 0) 68)).alloc (.cells (arr 8 fun _ => 0) 68)) (w.heap.size + 1) 68 8 (fun _ => 0) := Row.new' _ 68 8 _ (by simp)
  have B : BC ((w.alloc (.cells (arr 8 fun _ => 0) 68)).alloc (.cells (arr 8 fun _ => 0) 68)) g (bt s) s.size := (hB.alloc _).alloc _
  have O : Below w.heap.size w ((w.alloc (.cells (arr 8 fun _ => 0) 68)).alloc (.cells (arr 8 fun _ => 0) 68)) := ((Below.refl _ _).alloc (Nat.le_refl _) _).alloc (by simp) _
  generalize (w.alloc (.cells (arr 8 fun _ => 0) 68)).alloc (.cells (arr 8 fun _ => 0) 68) = W at R1 R2 B O ⊢
  clear hB
  go_loopw [8] (fun x wr => ∃ k : Nat, k ≤ s.size ∧ x = .int .i64 k ∧ Row wr w.heap.size 68 8 (fun _ => 0) ∧ Row wr (w.heap.size + 1) 68 8 (swk s k) ∧ BC wr g (bt s) s.size ∧ Below w.heap.size w wr) (fun x _ => s.size - (intOf x).toNat)
  case atStart => exact ⟨0, by omega, rfl, R1, R2.congr (fun i _ => by unfold swk; rw [show min (0 - 8 * i) 8 = 0 by omega]; rfl), B, O⟩
  case round =>
    clear R1 R2 B O
    obtain ⟨k, hk, rfl, R1, R2, B, O⟩ := hrel
    by_cases hlt : k < s.size
    · have c := B.c k hlt
      have d := R2.cell (i := k / 8) (by omega)
      have e := R2.free (k / 8)
      have b0 := bt_bd s k
      obtain ⟨b0, b1⟩ := b0
      have i1 : (0 : Int) ≤ (k : Int) := by omega
      have i2 : (k : Int) < (s.size : Int) := by omega
      have i3 : (0 : Int) ≤ (k : Int) / 8 := by omega
      have i4 : (k : Int) / 8 < 8 := by omega
      have i5 : ((k : Int) / 8).toNat = k / 8 := by omega
      rcases (show k % 8 = 0 ∨ k % 8 = 1 ∨ k % 8 = 2 ∨ k % 8 = 3 ∨ k % 8 = 4 ∨ k % 8 = 5 ∨ k % 8 = 6 ∨ k % 8 = 7 by omega) with h8 | h8 | h8 | h8 | h8 | h8 | h8 | h8
      · have a3 : (k : Int) % 8 = 0 := by omega
        have hor : bits BinOp.or IntKind.u64 (swk s k (k / 8)) (bt s k * 1) = sw s (k / 8) 1 := by
          rw [swk_at, h8]
          simp only [Int.mul_one]
          exact swor0 s (k / 8) k (by omega)
        rw [Int.mul_one] at hor
        have RR := hide (R2.set (k / 8) (sw s (k / 8) 1))
        have R1' := hide (R1.other (a := ⟨w.heap.size + 1, k / 8, none⟩) (by simp) (.int .u64 (sw s (k / 8) 1)))
        have B' := hide (B.other (a := ⟨w.heap.size + 1, k / 8, none⟩) (by simp; omega) (.int .u64 (sw s (k / 8) 1)))
        have O' := hide (O.setCell (p := ⟨w.heap.size + 1, k / 8, none⟩) (by simp) (.int .u64 (sw s (k / 8) 1)))
        have HN := hide (fun i => swk_next s k i)
        rw [h8] at HN
        clear R1 R2 B O
        go_wp2_with fail
        go_region
        go_wp2
        exact ⟨⟨k + 1, by omega, by go_num, rowD R1'.out, rowD (RR.out.congr (fun i _ => HN.out i)), B'.out.drew, O'.out.drew⟩, by simp [intOf]; omega⟩
      · have a3 : (k : Int) % 8 = 1 := by omega
        have hor : bits BinOp.or IntKind.u64 (swk s k (k / 8)) (bt s k * 256) = sw s (k / 8) 2 := by
          rw [swk_at, h8]
          exact swor1 s (k / 8) k (by omega)
        have RR := hide (R2.set (k / 8) (sw s (k / 8) 2))
        have R1' := hide (R1.other (a := ⟨w.heap.size + 1, k / 8, none⟩) (by simp) (.int .u64 (sw s (k / 8) 2)))
        have B' := hide (B.other (a := ⟨w.heap.size + 1, k / 8, none⟩) (by simp; omega) (.int .u64 (sw s (k / 8) 2)))
        have O' := hide (O.setCell (p := ⟨w.heap.size + 1, k / 8, none⟩) (by simp) (.int .u64 (sw s (k / 8) 2)))
        have HN := hide (fun i => swk_next s k i)
        rw [h8] at HN
        clear R1 R2 B O
        go_wp2_with fail
        go_region
        go_wp2
        exact ⟨⟨k + 1, by omega, by go_num, rowD R1'.out, rowD (RR.out.congr (fun i _ => HN.out i)), B'.out.drew, O'.out.drew⟩, by simp [intOf]; omega⟩
      · have a3 : (k : Int) % 8 = 2 := by omega
        have hor : bits BinOp.or IntKind.u64 (swk s k (k / 8)) (bt s k * 65536) = sw s (k / 8) 3 := by
          rw [swk_at, h8]
          exact swor2 s (k / 8) k (by omega)
        have RR := hide (R2.set (k / 8) (sw s (k / 8) 3))
        have R1' := hide (R1.other (a := ⟨w.heap.size + 1, k / 8, none⟩) (by simp) (.int .u64 (sw s (k / 8) 3)))
        have B' := hide (B.other (a := ⟨w.heap.size + 1, k / 8, none⟩) (by simp; omega) (.int .u64 (sw s (k / 8) 3)))
        have O' := hide (O.setCell (p := ⟨w.heap.size + 1, k / 8, none⟩) (by simp) (.int .u64 (sw s (k / 8) 3)))
        have HN := hide (fun i => swk_next s k i)
        rw [h8] at HN
        clear R1 R2 B O
        go_wp2_with fail
        go_region
        go_wp2
        exact ⟨⟨k + 1, by omega, by go_num, rowD R1'.out, rowD (RR.out.congr (fun i _ => HN.out i)), B'.out.drew, O'.out.drew⟩, by simp [intOf]; omega⟩
      · have a3 : (k : Int) % 8 = 3 := by omega
        have hor : bits BinOp.or IntKind.u64 (swk s k (k / 8)) (bt s k * 16777216) = sw s (k / 8) 4 := by
          rw [swk_at, h8]
          exact swor3 s (k / 8) k (by omega)
        have RR := hide (R2.set (k / 8) (sw s (k / 8) 4))
        have R1' := hide (R1.other (a := ⟨w.heap.size + 1, k / 8, none⟩) (by simp) (.int .u64 (sw s (k / 8) 4)))
        have B' := hide (B.other (a := ⟨w.heap.size + 1, k / 8, none⟩) (by simp; omega) (.int .u64 (sw s (k / 8) 4)))
        have O' := hide (O.setCell (p := ⟨w.heap.size + 1, k / 8, none⟩) (by simp) (.int .u64 (sw s (k / 8) 4)))
        have HN := hide (fun i => swk_next s k i)
        rw [h8] at HN
        clear R1 R2 B O
        go_wp2_with fail
        go_region
        go_wp2
        exact ⟨⟨k + 1, by omega, by go_num, rowD R1'.out, rowD (RR.out.congr (fun i _ => HN.out i)), B'.out.drew, O'.out.drew⟩, by simp [intOf]; omega⟩
      · have a3 : (k : Int) % 8 = 4 := by omega
        have hor : bits BinOp.or IntKind.u64 (swk s k (k / 8)) (bt s k * 4294967296) = sw s (k / 8) 5 := by
          rw [swk_at, h8]
          exact swor4 s (k / 8) k (by omega)
        have RR := hide (R2.set (k / 8) (sw s (k / 8) 5))
        have R1' := hide (R1.other (a := ⟨w.heap.size + 1, k / 8, none⟩) (by simp) (.int .u64 (sw s (k / 8) 5)))
        have B' := hide (B.other (a := ⟨w.heap.size + 1, k / 8, none⟩) (by simp; omega) (.int .u64 (sw s (k / 8) 5)))
        have O' := hide (O.setCell (p := ⟨w.heap.size + 1, k / 8, none⟩) (by simp) (.int .u64 (sw s (k / 8) 5)))
        have HN := hide (fun i => swk_next s k i)
        rw [h8] at HN
        clear R1 R2 B O
        go_wp2_with fail
        go_region
        go_wp2
        exact ⟨⟨k + 1, by omega, by go_num, rowD R1'.out, rowD (RR.out.congr (fun i _ => HN.out i)), B'.out.drew, O'.out.drew⟩, by simp [intOf]; omega⟩
      · have a3 : (k : Int) % 8 = 5 := by omega
        have hor : bits BinOp.or IntKind.u64 (swk s k (k / 8)) (bt s k * 1099511627776) = sw s (k / 8) 6 := by
          rw [swk_at, h8]
          exact swor5 s (k / 8) k (by omega)
        have RR := hide (R2.set (k / 8) (sw s (k / 8) 6))
        have R1' := hide (R1.other (a := ⟨w.heap.size + 1, k / 8, none⟩) (by simp) (.int .u64 (sw s (k / 8) 6)))
        have B' := hide (B.other (a := ⟨w.heap.size + 1, k / 8, none⟩) (by simp; omega) (.int .u64 (sw s (k / 8) 6)))
        have O' := hide (O.setCell (p := ⟨w.heap.size + 1, k / 8, none⟩) (by simp) (.int .u64 (sw s (k / 8) 6)))
        have HN := hide (fun i => swk_next s k i)
        rw [h8] at HN
        clear R1 R2 B O
        go_wp2_with fail
        go_region
        go_wp2
        exact ⟨⟨k + 1, by omega, by go_num, rowD R1'.out, rowD (RR.out.congr (fun i _ => HN.out i)), B'.out.drew, O'.out.drew⟩, by simp [intOf]; omega⟩
      · have a3 : (k : Int) % 8 = 6 := by omega
        have hor : bits BinOp.or IntKind.u64 (swk s k (k / 8)) (bt s k * 281474976710656) = sw s (k / 8) 7 := by
          rw [swk_at, h8]
          exact swor6 s (k / 8) k (by omega)
        have RR := hide (R2.set (k / 8) (sw s (k / 8) 7))
        have R1' := hide (R1.other (a := ⟨w.heap.size + 1, k / 8, none⟩) (by simp) (.int .u64 (sw s (k / 8) 7)))
        have B' := hide (B.other (a := ⟨w.heap.size + 1, k / 8, none⟩) (by simp; omega) (.int .u64 (sw s (k / 8) 7)))
        have O' := hide (O.setCell (p := ⟨w.heap.size + 1, k / 8, none⟩) (by simp) (.int .u64 (sw s (k / 8) 7)))
        have HN := hide (fun i => swk_next s k i)
        rw [h8] at HN
        clear R1 R2 B O
        go_wp2_with fail
        go_region
        go_wp2
        exact ⟨⟨k + 1, by omega, by go_num, rowD R1'.out, rowD (RR.out.congr (fun i _ => HN.out i)), B'.out.drew, O'.out.drew⟩, by simp [intOf]; omega⟩
      · have a3 : (k : Int) % 8 = 7 := by omega
        have hor : bits BinOp.or IntKind.u64 (swk s k (k / 8)) (bt s k * 72057594037927936) = sw s (k / 8) 8 := by
          rw [swk_at, h8]
          exact swor7 s (k / 8) k (by omega)
        have RR := hide (R2.set (k / 8) (sw s (k / 8) 8))
        have R1' := hide (R1.other (a := ⟨w.heap.size + 1, k / 8, none⟩) (by simp) (.int .u64 (sw s (k / 8) 8)))
        have B' := hide (B.other (a := ⟨w.heap.size + 1, k / 8, none⟩) (by simp; omega) (.int .u64 (sw s (k / 8) 8)))
        have O' := hide (O.setCell (p := ⟨w.heap.size + 1, k / 8, none⟩) (by simp) (.int .u64 (sw s (k / 8) 8)))
        have HN := hide (fun i => swk_next s k i)
        rw [h8] at HN
        clear R1 R2 B O
        go_wp2_with fail
        go_region
        go_wp2
        exact ⟨⟨k + 1, by omega, by go_num, rowD R1'.out, rowD (RR.out.congr (fun i _ => HN.out i)), B'.out.drew, O'.out.drew⟩, by simp [intOf]; omega⟩

    · have hk' : k = s.size := by omega
      subst hk'
      have HR := hide (R2.congr (f' := fun j => sw s j 8) (fun i _ => swk_end s i))
      have RR := hide (R1.setAll (fun j => sw s j 8))
      have OO := hide (below_setCells (g := w.heap.size) (Nat.le_refl _) (arr 8 fun j => sw s j 8).toList 0 O)
      clear R2 O B
      generalize hff : (fun j => sw s j 8) = f at HR RR OO
      have HF := hide hff
      clear hff
      go_wp2_with (first | (refine wpList_load_row rfl 68 _ rfl (w.heap.size + 1) rfl 68 (arr 8 f) (0, 0) _ HR.out Tryz.underlying68 rfl (info68 _) ?_) | (refine wpList_store_mid rfl 68 _ _ rfl w.heap.size 0 (arr 8 f) rfl rfl ?tho (info68 _) (arr_one _ _) ?_))
      case tho => rw [arr_size]; exact R1.there
      exact bodyPost_ret (v := .agg (arr 8 f)) (results_cell_row Tryz.results31 _ _ w.heap.size 68 (arr 8 f) (0, 0) _ rfl RR.out Tryz.underlying68 rfl (info68 _)) rfl ⟨by rw [HF.out], OO.out⟩

end Go.Proofs.YtkeocdebfgcnnaaGreat.Ord

/- The contracts of Of, Canonical and Clamp, of the law's of, and of the document's. -/
namespace Go.Proofs.YtkeocdebfgcnnaaGreat.Ord
open Go.RowKit

/-- The number of a string's bytes modulo the order. -/
def ofN (s : ByteArray) : Int := bv s s.size % Lm
theorem ofN_bd (s : ByteArray) : 0 ≤ ofN s ∧ ofN s < Lm := lmod _

theorem mod_bytes (s : ByteArray) (w : World) (hs : s.size ≤ 64) :
    Calls Tryz.prog 32 #[.agg (arr 8 fun j => sw s j 8)] w fun x w' => x = .returned (.agg (arr 4 (d64 (ofN s)))) ∧ Below w.heap.size w w' := by
  have h := modulo_any (fun j => sw s j 8) w (sw_wds s 8)
  rw [Q_bv s 8, bv_64 s hs] at h
  exact h

set_option maxRecDepth 100000 in
set_option maxHeartbeats 1000000 in
theorem of_any (s : ByteArray) (w : World) (hs : s.size ≤ 64) (hp : s.size = 32 ∨ s.size = 64) :
    Calls Tryz.prog 6 #[.string s] w fun r w' => r = .returned (.tuple #[.agg (arr 4 (d64 (ofN s))), .int .i64 0]) ∧ Below w.heap.size w w' := by
  have HM := hide fun w => mod_bytes s w hs
  have R : Row (w.alloc (.cells #[Value.int IntKind.u64 0, Value.int IntKind.u64 0, Value.int IntKind.u64 0, Value.int IntKind.u64 0] 34)) w.heap.size 34 4 (fun _ => 0) := Row.new w 34 4 (fun _ => 0)
  have O : Below w.heap.size w (w.alloc (.cells #[Value.int IntKind.u64 0, Value.int IntKind.u64 0, Value.int IntKind.u64 0, Value.int IntKind.u64 0] 34)) := new_below w _
  obtain ⟨cap, W1, hcv, B, hb⟩ := conv_str (w.alloc (.cells #[Value.int IntKind.u64 0, Value.int IntKind.u64 0, Value.int IntKind.u64 0, Value.int IntKind.u64 0] 34)) s
  rw [show (w.alloc (.cells #[Value.int IntKind.u64 0, Value.int IntKind.u64 0, Value.int IntKind.u64 0, Value.int IntKind.u64 0] 34)).heap.size = w.heap.size + 1 by simp] at hcv B
  have HB := hide B
  replace R := R.keep hb
  replace O := O.trans (hb.mono O.size)
  clear B hb
  generalize ofN s = V at *
  have fin : ∀ w', Row w' w.heap.size 34 4 (fun _ => 0) → Below w.heap.size w w' → True := fun _ _ _ => trivial
  clear fin
  rcases hp with hp | hp
  · have n0 : ((s.size : Int) != 32) = false := by simp [hp]
    go_enter Tryz.func6, Tryz.ntmps6
    go_wp2_with fail
    have HC := dbl_any s _ cap W1 hs HB.out
    rw [hp] at HC
    refine HC.mono ?_
    clear HC
    rintro _ w1 ⟨rfl, hb1⟩
    replace R := R.keep hb1
    replace O := O.trans (hb1.mono O.size)
    clear hb1 HB hcv n0
    go_wp2_with fail
    refine (HM.out _).mono ?_
    rintro _ w2 ⟨rfl, hb1⟩
    replace R := R.keep hb1
    replace O := O.trans (hb1.mono O.size)
    clear hb1 HM
    have RR := hide (R.setAll (d64 V))
    have OO := hide (below_setCells (g := w.heap.size) (Nat.le_refl _) (arr 4 (d64 V)).toList 0 O)
    clear O
    go_wp2_with (refine wpList_store_mid rfl 34 _ _ rfl w.heap.size 0 (arr 4 (d64 V)) rfl rfl ?thn (info34 _) (arr_one _ _) ?_)
    case thn => rw [arr_size]; exact R.there
    exact bodyPost_ret (v := .tuple #[.agg (arr 4 (d64 V)), .int .i64 0]) (results_cell_tmp Tryz.results6 _ _ w.heap.size 34 (arr 4 (d64 V)) (0, 0) _ _ rfl rfl RR.out Tryz.underlying34 rfl (info34 _)) rfl ⟨rfl, OO.out⟩
  · have n0 : ((s.size : Int) != 32) = true := by simp [hp]
    have n1 : ((s.size : Int) != 64) = false := by simp [hp]
    go_enter Tryz.func6, Tryz.ntmps6
    go_wp2_with fail
    have HC := dbl_any s _ cap W1 hs HB.out
    rw [hp] at HC
    refine HC.mono ?_
    clear HC
    rintro _ w1 ⟨rfl, hb1⟩
    replace R := R.keep hb1
    replace O := O.trans (hb1.mono O.size)
    clear hb1 HB hcv n0 n1
    go_wp2_with fail
    refine (HM.out _).mono ?_
    rintro _ w2 ⟨rfl, hb1⟩
    replace R := R.keep hb1
    replace O := O.trans (hb1.mono O.size)
    clear hb1 HM
    have RR := hide (R.setAll (d64 V))
    have OO := hide (below_setCells (g := w.heap.size) (Nat.le_refl _) (arr 4 (d64 V)).toList 0 O)
    clear O
    go_wp2_with (refine wpList_store_mid rfl 34 _ _ rfl w.heap.size 0 (arr 4 (d64 V)) rfl rfl ?thm (info34 _) (arr_one _ _) ?_)
    case thm => rw [arr_size]; exact R.there
    exact bodyPost_ret (v := .tuple #[.agg (arr 4 (d64 V)), .int .i64 0]) (results_cell_tmp Tryz.results6 _ _ w.heap.size 34 (arr 4 (d64 V)) (0, 0) _ _ rfl rfl RR.out Tryz.underlying34 rfl (info34 _)) rfl ⟨rfl, OO.out⟩

set_option maxHeartbeats 400000 in
theorem of_no (s : ByteArray) (w : World) (h1 : s.size ≠ 32) (h2 : s.size ≠ 64) :
    Calls Tryz.prog 6 #[.string s] w fun r w' => r = .returned (.tuple #[.agg (arr 4 (d64 0)), .int .i64 2]) ∧ Below w.heap.size w w' := by
  have n0 : ((s.size : Int) != 32) = true := by simp; omega
  have n1 : ((s.size : Int) != 64) = true := by simp; omega
  go_enter Tryz.func6, Tryz.ntmps6
  go_wp2
  exact bodyPost_ret (v := .tuple #[.agg (arr 4 (d64 0)), .int .i64 2]) (by simp [results, Tryz.results6, go_sem]; rfl) rfl ⟨rfl, (Below.refl _ _).alloc (Nat.le_refl _) _⟩

end Go.Proofs.YtkeocdebfgcnnaaGreat.Ord

/- What the multiples are: the program's and the document's are those of one point; the base point's order. -/
namespace Go.Proofs.YtkeocdebfgcnnaaGreat
open Go.RowKit

namespace Ord
theorem leb_le (N : Int) : lebytes N = bs (le N 32) := by
  unfold lebytes le digs
  have e : ∀ (i j : Nat), (N / 18446744073709551616 ^ i % 18446744073709551616) / 256 ^ j % 256 = N / 256 ^ (8 * i + j) % 256 ∨ 8 ≤ j := by
    intro i j
    by_cases hj : 8 ≤ j
    · exact .inr hj
    · left
      have e1 : (256 : Int) ^ (8 * i + j) = 18446744073709551616 ^ i * 256 ^ j := by
        rw [Int.pow_add, Int.pow_mul]
        rfl
      have hp := p64 i
      rw [e1, ← Int.ediv_ediv_of_nonneg (by omega)]
      generalize N / 18446744073709551616 ^ i = A
      rcases (show j = 0 ∨ j = 1 ∨ j = 2 ∨ j = 3 ∨ j = 4 ∨ j = 5 ∨ j = 6 ∨ j = 7 by omega) with rfl | rfl | rfl | rfl | rfl | rfl | rfl | rfl
      · simp only [Int.pow_zero]; omega
      · simp only [show (256 : Int) ^ 1 = 256 from by decide]; omega
      · simp only [show (256 : Int) ^ 2 = 65536 from by decide]; omega
      · simp only [show (256 : Int) ^ 3 = 16777216 from by decide]; omega
      · simp only [show (256 : Int) ^ 4 = 4294967296 from by decide]; omega
      · simp only [show (256 : Int) ^ 5 = 1099511627776 from by decide]; omega
      · simp only [show (256 : Int) ^ 6 = 281474976710656 from by decide]; omega
      · simp only [show (256 : Int) ^ 7 = 72057594037927936 from by decide]; omega
  congr 1
  have e' : ∀ (i j : Nat), j < 8 → N / 256 ^ (8 * i + j) % 256 = (N / 18446744073709551616 ^ i % 18446744073709551616) / 256 ^ j % 256 := fun i j hj => by
    rcases e i j with h | h
    · exact h.symm
    · omega
  have hl : List.range 32 = [8 * 0 + 0, 8 * 0 + 1, 8 * 0 + 2, 8 * 0 + 3, 8 * 0 + 4, 8 * 0 + 5, 8 * 0 + 6, 8 * 0 + 7, 8 * 1 + 0, 8 * 1 + 1, 8 * 1 + 2, 8 * 1 + 3, 8 * 1 + 4, 8 * 1 + 5, 8 * 1 + 6, 8 * 1 + 7, 8 * 2 + 0, 8 * 2 + 1, 8 * 2 + 2, 8 * 2 + 3, 8 * 2 + 4, 8 * 2 + 5, 8 * 2 + 6, 8 * 2 + 7, 8 * 3 + 0, 8 * 3 + 1, 8 * 3 + 2, 8 * 3 + 3, 8 * 3 + 4, 8 * 3 + 5, 8 * 3 + 6, 8 * 3 + 7] := by decide
  rw [hl]
  simp only [List.map_cons, List.map_nil]
  rw [e' 0 0 (by omega), e' 0 1 (by omega), e' 0 2 (by omega), e' 0 3 (by omega), e' 0 4 (by omega), e' 0 5 (by omega), e' 0 6 (by omega), e' 0 7 (by omega), e' 1 0 (by omega), e' 1 1 (by omega), e' 1 2 (by omega), e' 1 3 (by omega), e' 1 4 (by omega), e' 1 5 (by omega), e' 1 6 (by omega), e' 1 7 (by omega), e' 2 0 (by omega), e' 2 1 (by omega), e' 2 2 (by omega), e' 2 3 (by omega), e' 2 4 (by omega), e' 2 5 (by omega), e' 2 6 (by omega), e' 2 7 (by omega), e' 3 0 (by omega), e' 3 1 (by omega), e' 3 2 (by omega), e' 3 3 (by omega), e' 3 4 (by omega), e' 3 5 (by omega), e' 3 6 (by omega), e' 3 7 (by omega)]
  simp

theorem leb_size (N : Int) : (lebytes N).size = 32 := by
  unfold lebytes
  rw [bs_size]
  rfl

theorem leb_bv {N : Int} (hN : 0 ≤ N ∧ N < Lm) : bv (lebytes N) 32 = N := by
  have hP := Lm_P
  rw [leb_le N, bv_le N hN.1 32 32 (by omega)]
  have e : (256 : Int) ^ 32 = 18446744073709551616 ^ 4 := by decide
  rw [e, Int.emod_eq_of_lt hN.1 (by omega)]

end Ord

theorem add_self (P : Pt) : P.add P = P.mul 2 := by
  show _ = (zeroP.add P).add P
  rw [add_comm' zeroP, add_zero']
theorem Rep.dbl2 {p : P5} {P : Pt} (h : Rep p P) : Rep (dblF p) (P.mul 2) := by
  rw [← add_self]
  exact h.dbl
theorem Rep.d4 {p : P5} {P : Pt} {n : Nat} (h : Rep p (P.mul n)) : Rep (d4 p) (P.mul (n * 16)) := by
  have e : P.mul (n * 16) = ((((P.mul n).mul 2).mul 2).mul 2).mul 2 := by
    rw [← mul_mul', ← mul_mul', ← mul_mul', ← mul_mul']
  rw [e]
  exact h.dbl2.dbl2.dbl2.dbl2
theorem Rep.mulT {p : P5} {P : Pt} (h : Rep p P) : ∀ k, Rep (mulT p k) (P.mul k)
  | 0 => zero5_rep
  | k + 1 => (Rep.mulT h k).sum h
theorem Rep.sumN {p q : P5} {P : Pt} {m n : Nat} (hp : Rep p (P.mul m)) (hq : Rep q (P.mul n)) : Rep (sumF p q) (P.mul (m + n)) := by
  rw [mul_add']
  exact hp.sum hq
theorem div_step {A : Int} {B b : Nat} (h0 : 0 ≤ A) (h1 : (A / B).toNat = b) (hB : 0 < B) : A.toNat = b * B + (A % B).toNat := by
  have h2 := Int.emod_nonneg A (show (B : Int) ≠ 0 by omega)
  have h3 : 0 ≤ A / B := Int.ediv_nonneg h0 (by omega)
  have h4 := Int.mul_ediv_add_emod A B
  apply Int.ofNat.inj
  show (A.toNat : Int) = ((b * B + (A % B).toNat : Nat) : Int)
  rw [Int.natCast_add, Int.natCast_mul, ← h1, Int.toNat_of_nonneg h0, Int.toNat_of_nonneg h3, Int.toNat_of_nonneg h2, Int.mul_comm]
  exact h4.symm
theorem Rep.acc {p : P5} {P : Pt} (h : Rep p P) (s : ByteArray) : ∀ j, j ≤ 32 → Rep (acc p s j) (P.mul (Ord.bv s 32 / 256 ^ (32 - j)).toNat)
  | 0, _ => by
    have hb := Ord.bv_bd s 32
    rw [Int.ediv_eq_zero_of_lt hb.1 hb.2]
    exact zero5_rep
  | j + 1, hj => by
    have ih := Rep.acc h s j (by omega)
    have hb := Ord.bv_bd s 32
    have ha := Ord.bv_at s (j := 31 - j) (m := 32) (by omega)
    have hp := Ord.p8 (31 - j)
    rw [show 32 - j = 31 - j + 1 by omega, Int.pow_succ, ← Int.ediv_ediv_of_nonneg (by omega)] at ih
    rw [show 32 - (j + 1) = 31 - j by omega]
    have hA : 0 ≤ Ord.bv s 32 / 256 ^ (31 - j) := Int.ediv_nonneg hb.1 (by omega)
    generalize Ord.bv s 32 / 256 ^ (31 - j) = A at *
    have hd := div_step (B := 256) hA rfl (by omega)
    rw [hd, show (A % ((256 : Nat) : Int)) = A % 256 from rfl, ha]
    have ht := bt_bd s (31 - j)
    show Rep (sumF (_root_.Go.Proofs.YtkeocdebfgcnnaaGreat.d4 (sumF (_root_.Go.Proofs.YtkeocdebfgcnnaaGreat.d4 (_root_.Go.Proofs.YtkeocdebfgcnnaaGreat.acc p s j)) (_root_.Go.Proofs.YtkeocdebfgcnnaaGreat.mulT p (bt s (31 - j) / 16).toNat))) (_root_.Go.Proofs.YtkeocdebfgcnnaaGreat.mulT p (bt s (31 - j) % 16).toNat)) _
    have h2 := ((ih.d4.sumN (h.mulT (bt s (31 - j) / 16).toNat)).d4).sumN (h.mulT (bt s (31 - j) % 16).toNat)
    have e : ((A / 256).toNat * 16 + (bt s (31 - j) / 16).toNat) * 16 + (bt s (31 - j) % 16).toNat = (A / ((256 : Nat) : Int)).toNat * 256 + (bt s (31 - j)).toNat := by
      rw [show (A / ((256 : Nat) : Int)) = A / 256 from rfl]
      omega
    rw [e] at h2
    exact h2

/-- Mul by a scalar. -/
def mulV (p : P5) (N : Int) : P5 := acc p (Ord.lebytes N) 32
theorem Rep.mul {p : P5} {P : Pt} (h : Rep p P) {N : Int} (hN : 0 ≤ N ∧ N < Ord.Lm) : Rep (mulV p N) (P.mul N.toNat) := by
  have h2 := h.acc (Ord.lebytes N) 32 (Nat.le_refl _)
  rw [Ord.leb_bv hN, Nat.sub_self, Int.pow_zero, Int.ediv_one] at h2
  exact h2
theorem c_mul {p : P5} {P : Pt} (h : Rep p P) (N : Int) (w : World) : Calls Tryz.prog 15 #[.agg (arr 20 p.f), .agg (arr 4 (Ord.d64 N))] w fun r w' => r = .returned (.agg (arr 20 (mulV p N).f)) ∧ Below w.heap.size w w' :=
  mulY_gen p (Ord.d64 N) (Ord.lebytes N) w ⟨trivial⟩ h.ok h.none (Ord.leb_size N) (fun w => Ord.bytes_any N w)

theorem RRep.dblN {q : RQ} {P : Pt} {n : Nat} (h : RRep q (P.mul n)) : RRep (raddV q q) (P.mul (n * 2)) := by
  rw [mul_mul', ← add_self]
  exact h.add h
end Go.Proofs.YtkeocdebfgcnnaaGreat

/- The base point, as often as its order tells, is the zero point. -/
namespace Go.Proofs.YtkeocdebfgcnnaaGreat
open Go.RowKit

def rst (q : RQ) : List Bool → RQ → RQ
  | [], r => r
  | true :: l, r => rst q l (raddV (raddV r r) q)
  | false :: l, r => rst q l (raddV r r)
def nst : List Bool → Nat → Nat
  | [], n => n
  | true :: l, n => nst l (n * 2 + 1)
  | false :: l, n => nst l (n * 2)
theorem RRep.rst {q : RQ} {P : Pt} (hq : RRep q P) : ∀ (l : List Bool) (r : RQ) (n : Nat), RRep r (P.mul n) → RRep (rst q l r) (P.mul (nst l n))
  | [], _, _, h => h
  | true :: l, _, _, h => RRep.rst hq l _ _ ((h.dblN).add hq)
  | false :: l, _, _, h => RRep.rst hq l _ _ h.dblN
theorem RQ.ext {p q : RQ} (h : p.x = q.x ∧ p.y = q.y ∧ p.z = q.z ∧ p.t = q.t) : p = q := by
  cases p
  cases q
  obtain ⟨rfl, rfl, rfl, rfl⟩ := h
  rfl
def bQ : RQ := rofV BX BY
theorem RRep.step {P : Pt} {r r' : RQ} {n n' : Nat} {q : RQ} (h : RRep r (P.mul n)) (hq : RRep q P) (l : List Bool) (h1 : (Go.Proofs.YtkeocdebfgcnnaaGreat.rst q l r).x = r'.x ∧ (Go.Proofs.YtkeocdebfgcnnaaGreat.rst q l r).y = r'.y ∧ (Go.Proofs.YtkeocdebfgcnnaaGreat.rst q l r).z = r'.z ∧ (Go.Proofs.YtkeocdebfgcnnaaGreat.rst q l r).t = r'.t) (h2 : nst l n = n') : RRep r' (P.mul n') := by
  have h3 := hq.rst l r n h
  rw [RQ.ext h1, h2] at h3
  exact h3
def o0 : RQ := rzeroV
def o1 : RQ := ⟨28395401623189904592402220376056608767286906469681911141736293996965798587502, 39551095695588853852379006563980990449178671813393243361538106395492117339030, 13195407553963494886988266688278850522809838004392335738274838344469044685139, 5998313819499033592004301560146126542607977991985566157281743382373950066103⟩
def o2 : RQ := ⟨3736255692963323852157080816719051928015231286185418755506407306915993899308, 17983798907073456331824429511468081546160187313990958684116939890165973385368, 33785251562200620272591655105578257675791047440203960497896472325457266014387, 45039970419153914913233916472718629475295562274195907195989696614576481271418⟩
def o3 : RQ := ⟨32052919422593390400337661247495038476529181208675066921379485888298719544837, 28429070914396697255495341828562990241969202408203355349348710724900185533588, 10588827755536999659864071860885663282680288609784572110374386994466660820476, 43013930901032196104395741888172690439877794597309416145526463712315394175116⟩
def o4 : RQ := ⟨4776277093813094955447743187417552572016585737685742536869622802835626899788, 30356025824548741949173045342494487507276562520522040179358715903492292688926, 29323326198710578740964923425401914765723760484569174664957710697561699375900, 13956212776148083255775091524001131953413201558734147707505118271509020383196⟩
def o5 : RQ := ⟨806028773641219405862066059792010227355644258226013237337961789056367360821, 13645183299928035859404353138110674523321692145028244430183708252202950528286, 25740815768117163713671634973563184703771474299857880066918189357958302116656, 52976027652120056614879305678715301146658099535885801916867846385800325449149⟩
def o6 : RQ := ⟨53202340910804720089923126557762210560763707178748913619495571538216751118793, 5994992531545989339101713789415225570399832354646093006770512998245129148230, 49169377775103921856242158605049669300247942084372411297801676540811558102635, 17654134180440362703753347632903727523010676403024084488303834421225956520400⟩
def o7 : RQ := ⟨34437211082591628754963963332413600883643232053922453139678842744603559047493, 54680333614222602184519653312904971056685970828137662068838011254234276717307, 57588523901183987980859279241235023185009676028267405362722392578218847616269, 41914822620010476767204697037032211561614625667705488896940774529961006791822⟩
def o8 : RQ := ⟨24938624142880780344185953651372311870993717010437796377091996921811638714354, 16474457591788104045688778599773579319323806555755566182177038192546166075924, 57524396202905988941658100797691401348601525856126991861405551356077940318813, 26224548346873096615053983777140347907859092712892604855457609964493929522927⟩
def o9 : RQ := ⟨25168124459283634048685004133356609610721974039013091971913029540572414504877, 27987968856047954817657214997378746610764352260470400266540909667165894558128, 14768179893708287219721532596338883635357869270426009452434214877506987587763, 6326508007159339918357099038779855480739308633279098373600916981610574437171⟩
def o10 : RQ := ⟨27747334574616394001671544972397522701443406515410373621549800952286789188031, 8199122845177527114994708208354772536036717138860348540088995815280918949742, 5134118114367787481165291208904372290085401719766489595368751140561486979321, 54909114419988028932990657036010681893848110131280402308041711995246989110530⟩
def o11 : RQ := ⟨47916525168426179058218639806050604838489673677967769462188175335800095451463, 30617327695503016912621504384003028789359232859295326909963525387337587687837, 15147999521824012262492808253667687103168467042379860254812284001570090082820, 29164916684187026905245983522567931035026027657278887173783286103699229397309⟩
def o12 : RQ := ⟨55586458315084942508444723505078300992367419188555001130362602504126887477078, 42426833684895173971395463425312672006402497661541248970032229337861445966265, 30730388071930233499358459694661362762964327783092890224499688175283802616403, 8039619322643508031468223705383141458266607702281554665860735995537490650637⟩
def o13 : RQ := ⟨51419250150038731644333251568919273144715778504851121824800562544659421298484, 28903739427090395221708848164697410114564063746263677860320303608050639344901, 15017484878533359343056733774260568446294757705876846707190123253873000062853, 6663089723473616439001129195948032937660877275257366086977936812382531236983⟩
def o14 : RQ := ⟨10254399784315766716610494235702531705911148126970686655270206883261708408098, 11469908055901212768965127832624076734961441843657061447519809181412902932642, 30131591433583498236796704419554815994011702757874957746806098848784234914440, 16582165256344878604191661744201309794514361187147972527423185449348709391635⟩
def o15 : RQ := ⟨32761083542642319082911891549565013916355666803021809017442293094877123159423, 43260193632724267928556799731591429809763670677086712837872571686988731236319, 52079969498321735438166242631188276138841292434150570293186434401445865030891, 50690132427915236889963139383109278049152775223873666246053827620230532825267⟩
def o16 : RQ := ⟨0, 31463696881198654800294338934949973004785003180365891933753696501213649936932, 31463696881198654800294338934949973004785003180365891933753696501213649936932, 0⟩
theorem of1 : (rst bQ [true, false, false, false, false, false, false, false, false, false, false, false, false, false, false, false] o0).x = o1.x ∧ (rst bQ [true, false, false, false, false, false, false, false, false, false, false, false, false, false, false, false] o0).y = o1.y ∧ (rst bQ [true, false, false, false, false, false, false, false, false, false, false, false, false, false, false, false] o0).z = o1.z ∧ (rst bQ [true, false, false, false, false, false, false, false, false, false, false, false, false, false, false, false] o0).t = o1.t := by decide +kernel
theorem of2 : (rst bQ [false, false, false, false, false, false, false, false, false, false, false, false, false, false, false, false] o1).x = o2.x ∧ (rst bQ [false, false, false, false, false, false, false, false, false, false, false, false, false, false, false, false] o1).y = o2.y ∧ (rst bQ [false, false, false, false, false, false, false, false, false, false, false, false, false, false, false, false] o1).z = o2.z ∧ (rst bQ [false, false, false, false, false, false, false, false, false, false, false, false, false, false, false, false] o1).t = o2.t := by decide +kernel
theorem of3 : (rst bQ [false, false, false, false, false, false, false, false, false, false, false, false, false, false, false, false] o2).x = o3.x ∧ (rst bQ [false, false, false, false, false, false, false, false, false, false, false, false, false, false, false, false] o2).y = o3.y ∧ (rst bQ [false, false, false, false, false, false, false, false, false, false, false, false, false, false, false, false] o2).z = o3.z ∧ (rst bQ [false, false, false, false, false, false, false, false, false, false, false, false, false, false, false, false] o2).t = o3.t := by decide +kernel
theorem of4 : (rst bQ [false, false, false, false, false, false, false, false, false, false, false, false, false, false, false, false] o3).x = o4.x ∧ (rst bQ [false, false, false, false, false, false, false, false, false, false, false, false, false, false, false, false] o3).y = o4.y ∧ (rst bQ [false, false, false, false, false, false, false, false, false, false, false, false, false, false, false, false] o3).z = o4.z ∧ (rst bQ [false, false, false, false, false, false, false, false, false, false, false, false, false, false, false, false] o3).t = o4.t := by decide +kernel
theorem of5 : (rst bQ [false, false, false, false, false, false, false, false, false, false, false, false, false, false, false, false] o4).x = o5.x ∧ (rst bQ [false, false, false, false, false, false, false, false, false, false, false, false, false, false, false, false] o4).y = o5.y ∧ (rst bQ [false, false, false, false, false, false, false, false, false, false, false, false, false, false, false, false] o4).z = o5.z ∧ (rst bQ [false, false, false, false, false, false, false, false, false, false, false, false, false, false, false, false] o4).t = o5.t := by decide +kernel
theorem of6 : (rst bQ [false, false, false, false, false, false, false, false, false, false, false, false, false, false, false, false] o5).x = o6.x ∧ (rst bQ [false, false, false, false, false, false, false, false, false, false, false, false, false, false, false, false] o5).y = o6.y ∧ (rst bQ [false, false, false, false, false, false, false, false, false, false, false, false, false, false, false, false] o5).z = o6.z ∧ (rst bQ [false, false, false, false, false, false, false, false, false, false, false, false, false, false, false, false] o5).t = o6.t := by decide +kernel
theorem of7 : (rst bQ [false, false, false, false, false, false, false, false, false, false, false, false, false, false, false, false] o6).x = o7.x ∧ (rst bQ [false, false, false, false, false, false, false, false, false, false, false, false, false, false, false, false] o6).y = o7.y ∧ (rst bQ [false, false, false, false, false, false, false, false, false, false, false, false, false, false, false, false] o6).z = o7.z ∧ (rst bQ [false, false, false, false, false, false, false, false, false, false, false, false, false, false, false, false] o6).t = o7.t := by decide +kernel
theorem of8 : (rst bQ [false, false, false, false, false, false, false, false, false, false, false, false, false, false, false, false] o7).x = o8.x ∧ (rst bQ [false, false, false, false, false, false, false, false, false, false, false, false, false, false, false, false] o7).y = o8.y ∧ (rst bQ [false, false, false, false, false, false, false, false, false, false, false, false, false, false, false, false] o7).z = o8.z ∧ (rst bQ [false, false, false, false, false, false, false, false, false, false, false, false, false, false, false, false] o7).t = o8.t := by decide +kernel
theorem of9 : (rst bQ [true, false, true, false, false, true, true, false, true, true, true, true, false, true, true, true] o8).x = o9.x ∧ (rst bQ [true, false, true, false, false, true, true, false, true, true, true, true, false, true, true, true] o8).y = o9.y ∧ (rst bQ [true, false, true, false, false, true, true, false, true, true, true, true, false, true, true, true] o8).z = o9.z ∧ (rst bQ [true, false, true, false, false, true, true, false, true, true, true, true, false, true, true, true] o8).t = o9.t := by decide +kernel
theorem of10 : (rst bQ [true, true, false, false, true, true, true, false, true, true, true, true, false, true, false, true] o9).x = o10.x ∧ (rst bQ [true, true, false, false, true, true, true, false, true, true, true, true, false, true, false, true] o9).y = o10.y ∧ (rst bQ [true, true, false, false, true, true, true, false, true, true, true, true, false, true, false, true] o9).z = o10.z ∧ (rst bQ [true, true, false, false, true, true, true, false, true, true, true, true, false, true, false, true] o9).t = o10.t := by decide +kernel
theorem of11 : (rst bQ [false, false, false, true, false, true, true, true, true, false, true, true, true, true, false, false] o10).x = o11.x ∧ (rst bQ [false, false, false, true, false, true, true, true, true, false, true, true, true, true, false, false] o10).y = o11.y ∧ (rst bQ [false, false, false, true, false, true, true, true, true, false, true, true, true, true, false, false] o10).z = o11.z ∧ (rst bQ [false, false, false, true, false, true, true, true, true, false, true, true, true, true, false, false] o10).t = o11.t := by decide +kernel
theorem of12 : (rst bQ [true, true, true, false, false, true, true, false, true, false, true, true, false, false, true, false] o11).x = o12.x ∧ (rst bQ [true, true, true, false, false, true, true, false, true, false, true, true, false, false, true, false] o11).y = o12.y ∧ (rst bQ [true, true, true, false, false, true, true, false, true, false, true, true, false, false, true, false] o11).z = o12.z ∧ (rst bQ [true, true, true, false, false, true, true, false, true, false, true, true, false, false, true, false] o11).t = o12.t := by decide +kernel
theorem of13 : (rst bQ [true, true, false, false, false, false, false, false, true, false, false, true, false, false, true, true] o12).x = o13.x ∧ (rst bQ [true, true, false, false, false, false, false, false, true, false, false, true, false, false, true, true] o12).y = o13.y ∧ (rst bQ [true, true, false, false, false, false, false, false, true, false, false, true, false, false, true, true] o12).z = o13.z ∧ (rst bQ [true, true, false, false, false, false, false, false, true, false, false, true, false, false, true, true] o12).t = o13.t := by decide +kernel
theorem of14 : (rst bQ [false, false, false, true, true, false, false, false, true, true, false, true, false, false, true, false] o13).x = o14.x ∧ (rst bQ [false, false, false, true, true, false, false, false, true, true, false, true, false, false, true, false] o13).y = o14.y ∧ (rst bQ [false, false, false, true, true, false, false, false, true, true, false, true, false, false, true, false] o13).z = o14.z ∧ (rst bQ [false, false, false, true, true, false, false, false, true, true, false, true, false, false, true, false] o13).t = o14.t := by decide +kernel
theorem of15 : (rst bQ [true, true, true, false, false, true, true, true, true, false, true, false, true, true, true, false] o14).x = o15.x ∧ (rst bQ [true, true, true, false, false, true, true, true, true, false, true, false, true, true, true, false] o14).y = o15.y ∧ (rst bQ [true, true, true, false, false, true, true, true, true, false, true, false, true, true, true, false] o14).z = o15.z ∧ (rst bQ [true, true, true, false, false, true, true, true, true, false, true, false, true, true, true, false] o14).t = o15.t := by decide +kernel
theorem of16 : (rst bQ [true, false, false, true, true, true, true, true, false, true, true, false, true] o15).x = o16.x ∧ (rst bQ [true, false, false, true, true, true, true, true, false, true, true, false, true] o15).y = o16.y ∧ (rst bQ [true, false, false, true, true, true, true, true, false, true, true, false, true] o15).z = o16.z ∧ (rst bQ [true, false, false, true, true, true, true, true, false, true, true, false, true] o15).t = o16.t := by decide +kernel
theorem ord_rep : RRep o16 (baseQ.mul 7237005577332262213973186563042994240857116359379907606001950938285454250989) := by
  have hq : RRep bQ baseQ := by
    unfold bQ
    rw [← base_q]
    exact rbase_rep
  have h : RRep o0 (baseQ.mul 0) := rzero_rep
  have h : RRep o1 (baseQ.mul 32768) := h.step hq [true, false, false, false, false, false, false, false, false, false, false, false, false, false, false, false] of1 (by decide +kernel)
  have h : RRep o2 (baseQ.mul 2147483648) := h.step hq [false, false, false, false, false, false, false, false, false, false, false, false, false, false, false, false] of2 (by decide +kernel)
  have h : RRep o3 (baseQ.mul 140737488355328) := h.step hq [false, false, false, false, false, false, false, false, false, false, false, false, false, false, false, false] of3 (by decide +kernel)
  have h : RRep o4 (baseQ.mul 9223372036854775808) := h.step hq [false, false, false, false, false, false, false, false, false, false, false, false, false, false, false, false] of4 (by decide +kernel)
  have h : RRep o5 (baseQ.mul 604462909807314587353088) := h.step hq [false, false, false, false, false, false, false, false, false, false, false, false, false, false, false, false] of5 (by decide +kernel)
  have h : RRep o6 (baseQ.mul 39614081257132168796771975168) := h.step hq [false, false, false, false, false, false, false, false, false, false, false, false, false, false, false, false] of6 (by decide +kernel)
  have h : RRep o7 (baseQ.mul 2596148429267413814265248164610048) := h.step hq [false, false, false, false, false, false, false, false, false, false, false, false, false, false, false, false] of7 (by decide +kernel)
  have h : RRep o8 (baseQ.mul 170141183460469231731687303715884105728) := h.step hq [false, false, false, false, false, false, false, false, false, false, false, false, false, false, false, false] of8 (by decide +kernel)
  have h : RRep o9 (baseQ.mul 11150372599265311570767859136324180753032951) := h.step hq [true, false, true, false, false, true, true, false, true, true, true, true, false, true, true, true] of9 (by decide +kernel)
  have h : RRep o10 (baseQ.mul 730750818665451459101842416358141509830767529717) := h.step hq [true, true, false, false, true, true, true, false, true, true, true, true, false, true, false, true] of10 (by decide +kernel)
  have h : RRep o11 (baseQ.mul 47890485652059026823698344598447161988269180827539388) := h.step hq [false, false, false, true, false, true, true, true, true, false, true, true, true, true, false, false] of11 (by decide +kernel)
  have h : RRep o12 (baseQ.mul 3138550867693340381917894711603833208063209034713621391026) := h.step hq [true, true, true, false, false, true, true, false, true, false, true, true, false, false, true, false] of12 (by decide +kernel)
  have h : RRep o13 (baseQ.mul 205688069665150755269371147819668813123630467298991891482329235) := h.step hq [true, true, false, false, false, false, false, false, true, false, false, true, false, false, true, true] of13 (by decide +kernel)
  have h : RRep o14 (baseQ.mul 13479973333575319897333507543509815336870246304906732600185928751314) := h.step hq [false, false, false, true, true, false, false, false, true, true, false, true, false, false, true, false] of14 (by decide +kernel)
  have h : RRep o15 (baseQ.mul 883423532389192164791648750371459257917128461838367627685785026646173614) := h.step hq [true, true, true, false, false, true, true, true, true, false, true, false, true, true, true, false] of15 (by decide +kernel)
  have h : RRep o16 (baseQ.mul 7237005577332262213973186563042994240857116359379907606001950938285454250989) := h.step hq [true, false, false, true, true, true, true, true, false, true, true, false, true] of16 (by decide +kernel)
  exact h
def oN : Nat := 7237005577332262213973186563042994240857116359379907606001950938285454250989
theorem oN_Lm : (oN : Int) = Ord.Lm := by decide +kernel
theorem ord_zero : baseQ.mul oN = zeroP := (ord_rep.same rzero_rep).1 (by decide +kernel)

end Go.Proofs.YtkeocdebfgcnnaaGreat

/- The walk of EdwReckons. -/
namespace Go.Proofs.YtkeocdebfgcnnaaGreat
open Go.RowKit

def decQ (s : ByteArray) : Pt := if h : rdecB s = true then decPt s h else zeroP
theorem dec_both {s : ByteArray} (hc : decC s = 0) : Rep (decP s) (decQ s) ∧ RRep (rdecP s) (decQ s) := by
  have h32 : s.size = 32 := by
    refine Classical.byContradiction fun h => ?_
    unfold decC at hc
    rw [if_neg h] at hc
    cases hc
  have hB : rdecB s = true := by
    cases h : rdecB s
    · unfold decC at hc
      rw [if_pos h32, dec_eq, h] at hc
      cases hc
    · rfl
  have e : decQ s = decPt s hB := by
    unfold decQ
    rw [dif_pos hB]
  rw [e]
  exact ⟨dec_rep h32 hB, rdec_rep h32 hB⟩
def ofC (s : ByteArray) : Int := if s.size = 32 ∨ s.size = 64 then 0 else 2
def ofV (s : ByteArray) : Int := if s.size = 32 ∨ s.size = 64 then Ord.ofN s else 0
theorem c_of (s : ByteArray) (w : World) : Calls Tryz.prog 6 #[.string s] w fun r w' => r = .returned (.tuple #[.agg (arr 4 (Ord.d64 (ofV s))), .int .i64 (ofC s)]) ∧ Below w.heap.size w w' := by
  unfold ofV ofC
  by_cases h : s.size = 32 ∨ s.size = 64
  · rw [if_pos h, if_pos h]
    exact Ord.of_any s w (by omega) h
  · rw [if_neg h, if_neg h]
    exact Ord.of_no s w (by omega) (by omega)
theorem ofV_bd (s : ByteArray) : 0 ≤ ofV s ∧ ofV s < Ord.Lm := by
  unfold ofV
  split
  · exact Ord.ofN_bd s
  · decide
end Go.Proofs.YtkeocdebfgcnnaaGreat
