/- Part 7 of the walks and facts behind edwNone_holds. -/
import Derived.Test.YtkeocdebfgcnnaaCn6
import Derived.BigQuiet
import Derived.Deep.Cut
import Derived.Deep.RegionWith
import Derived.Laws.BitsAllLaws
import Derived.Laws.BytesString
import Derived.Laws.IdiomStrings
import Derived.Laws.Rows
import Derived.Laws.StructEq
import Derived.Test.YtkeocdebfgcnnaaRows
/- Numbers of words of 64 bits: sums with carries, differences with borrows. -/
namespace Go.Proofs.Ytkeocdebfgcnnaa.Ord
open Go.RowKit

/-- The number of the first n words. -/
def Q (f : Nat → Int) : Nat → Int
  | 0 => 0
  | n + 1 => Q f n + f n * 18446744073709551616 ^ n
/-- Each of the first n words is one. -/
def Wds (f : Nat → Int) (n : Nat) : Prop := ∀ i, i < n → W64 (f i)
theorem Wds.le {f : Nat → Int} {n m : Nat} (h : Wds f n) (hm : m ≤ n) : Wds f m := fun i hi => h i (by omega)
theorem p64 (n : Nat) : (0 : Int) < 18446744073709551616 ^ n := Int.pow_pos (by decide)
theorem p64s (n : Nat) : (18446744073709551616 : Int) ^ (n + 1) = 18446744073709551616 * 18446744073709551616 ^ n := by rw [Int.pow_succ, Int.mul_comm]
theorem Q_congr {f g : Nat → Int} : ∀ {n : Nat}, (∀ i, i < n → f i = g i) → Q f n = Q g n
  | 0, _ => rfl
  | n + 1, h => by
    simp only [Q]
    rw [Q_congr (n := n) fun i hi => h i (by omega), h n (by omega)]
theorem Q_bd {f : Nat → Int} : ∀ {n : Nat}, Wds f n → 0 ≤ Q f n ∧ Q f n < 18446744073709551616 ^ n
  | 0, _ => by simp [Q]
  | n + 1, h => by
    have ih := Q_bd (n := n) (h.le (by omega))
    have hd := h n (by omega)
    have hp := p64 n
    have h1 : f n * 18446744073709551616 ^ n ≤ 18446744073709551615 * 18446744073709551616 ^ n := Int.mul_le_mul_of_nonneg_right (by have := hd.2; omega) (by omega)
    have h2 : 0 ≤ f n * 18446744073709551616 ^ n := Int.mul_nonneg hd.1 (by omega)
    rw [p64s]
    simp only [Q]
    omega

/-- The carry into word k. -/
def pc (f g : Nat → Int) : Nat → Int
  | 0 => 0
  | k + 1 => (f k + g k + pc f g k) / 18446744073709551616
def ps (f g : Nat → Int) : Nat → Int := fun k => (f k + g k + pc f g k) % 18446744073709551616
theorem pc_bd {f g : Nat → Int} (hf : Wds f 4) (hg : Wds g 4) : ∀ k, k ≤ 4 → 0 ≤ pc f g k ∧ pc f g k ≤ 1
  | 0, _ => by simp [pc]
  | k + 1, h => by
    have ih := pc_bd hf hg k (by omega)
    have h1 := hf k (by omega)
    have h2 := hg k (by omega)
    unfold W64 at h1 h2
    simp only [pc]
    omega
theorem ps_wds (f g : Nat → Int) (n : Nat) : Wds (ps f g) n := fun i _ => by unfold ps W64; omega
theorem ps_Q (f g : Nat → Int) : ∀ k, Q (ps f g) k + pc f g k * 18446744073709551616 ^ k = Q f k + Q g k
  | 0 => by simp [Q, pc]
  | k + 1 => by
    have ih := ps_Q f g k
    have e : pc f g (k + 1) * 18446744073709551616 ^ (k + 1) = 18446744073709551616 * pc f g (k + 1) * 18446744073709551616 ^ k := by rw [p64s, ← Int.mul_assoc, Int.mul_comm (pc f g (k + 1)) 18446744073709551616]
    have e2 : ps f g k = f k + g k + pc f g k - 18446744073709551616 * pc f g (k + 1) := by
      simp only [ps, pc]
      omega
    simp only [Q]
    rw [e, e2, Int.sub_mul, Int.add_mul, Int.add_mul]
    omega

/-- The borrow from word k. -/
def br (f g : Nat → Int) : Nat → Int
  | 0 => 0
  | k + 1 => if f k < g k + br f g k then 1 else 0
def ms (f g : Nat → Int) : Nat → Int := fun k => (f k - g k - br f g k) % 18446744073709551616
theorem br_bd (f g : Nat → Int) : ∀ k, 0 ≤ br f g k ∧ br f g k ≤ 1
  | 0 => by simp [br]
  | k + 1 => by
    simp only [br]
    split <;> omega
theorem ms_wds (f g : Nat → Int) (n : Nat) : Wds (ms f g) n := fun i _ => by unfold ms W64; omega
theorem ms_Q {f g : Nat → Int} (hf : Wds f 4) (hg : Wds g 4) : ∀ k, k ≤ 4 → Q (ms f g) k - br f g k * 18446744073709551616 ^ k = Q f k - Q g k
  | 0, _ => by simp [Q, br]
  | k + 1, h => by
    have ih := ms_Q hf hg k (by omega)
    have h1 := hf k (by omega)
    have h2 := hg k (by omega)
    have h3 := br_bd f g k
    unfold W64 at h1 h2
    have e : br f g (k + 1) * 18446744073709551616 ^ (k + 1) = 18446744073709551616 * br f g (k + 1) * 18446744073709551616 ^ k := by rw [p64s, ← Int.mul_assoc, Int.mul_comm (br f g (k + 1)) 18446744073709551616]
    have e2 : ms f g k = f k - g k - br f g k + 18446744073709551616 * br f g (k + 1) := by
      simp only [ms, br]
      split <;> omega
    simp only [Q]
    rw [e, e2, Int.add_mul, Int.sub_mul, Int.sub_mul]
    omega

/-- The words of a number. -/
def d64 (N : Int) : Nat → Int := fun i => N / 18446744073709551616 ^ i % 18446744073709551616
theorem d64_wds (N : Int) (n : Nat) : Wds (d64 N) n := fun i _ => by unfold d64 W64; omega
theorem d64_Q (N : Int) (h0 : 0 ≤ N) : ∀ n, Q (d64 N) n = N % 18446744073709551616 ^ n
  | 0 => by simp [Q, Int.emod_one]
  | n + 1 => by
    simp only [Q]
    rw [d64_Q N h0 n, d64, Int.pow_succ]
    have hp := p64 n
    have e1 := Int.emod_add_mul_ediv N (18446744073709551616 ^ n)
    have e2 := Int.emod_add_mul_ediv (N / 18446744073709551616 ^ n) 18446744073709551616
    rw [Int.emod_def N (18446744073709551616 ^ n * 18446744073709551616), ← Int.ediv_ediv_of_nonneg (by omega)]
    generalize N / 18446744073709551616 ^ n = A at *
    have e3 : A % 18446744073709551616 * 18446744073709551616 ^ n = A * 18446744073709551616 ^ n - 18446744073709551616 * (A / 18446744073709551616) * 18446744073709551616 ^ n := by
      rw [← Int.sub_mul]
      congr 1
      omega
    rw [e3]
    generalize A / 18446744073709551616 = B at *
    generalize (18446744073709551616 : Int) ^ n = X at *
    rw [Int.mul_comm A X, show 18446744073709551616 * B * X = X * 18446744073709551616 * B by rw [Int.mul_comm (18446744073709551616 * B) X, ← Int.mul_assoc]]
    omega
theorem Q_inj {f g : Nat → Int} : ∀ {n : Nat}, Wds f n → Wds g n → Q f n = Q g n → ∀ i, i < n → f i = g i
  | 0, _, _, _, i, hi => by omega
  | n + 1, hf, hg, h, i, hi => by
    have b1 := Q_bd (hf.le (m := n) (by omega))
    have b2 := Q_bd (hg.le (m := n) (by omega))
    have hp := p64 n
    simp only [Q] at h
    have hn : f n = g n := by
      generalize Q f n = a at *
      generalize Q g n = b at *
      generalize (18446744073709551616 : Int) ^ n = X at *
      have h2 : (f n - g n) * X = b - a := by rw [Int.sub_mul]; omega
      by_cases e : f n - g n = 0
      · omega
      · exfalso
        by_cases hl : 1 ≤ f n - g n
        · have : 1 * X ≤ (f n - g n) * X := Int.mul_le_mul_of_nonneg_right hl (by omega)
          omega
        · have : (f n - g n) * X ≤ (-1) * X := Int.mul_le_mul_of_nonneg_right (by omega) (by omega)
          omega
    by_cases hi2 : i = n
    · rw [hi2]; exact hn
    · exact Q_inj (n := n) (hf.le (by omega)) (hg.le (by omega)) (by rw [hn] at h; omega) i (by omega)

/-- Of the words f the first k have become those of r. -/
def upto (k : Nat) (r f : Nat → Int) : Nat → Int := fun i => if i < k then r i else f i
theorem upto_zero (r f : Nat → Int) (i : Nat) : f i = upto 0 r f i := by unfold upto; rw [if_neg (by omega)]
theorem upto_at (k : Nat) (r f : Nat → Int) : upto k r f k = f k := by unfold upto; rw [if_neg (by omega)]
theorem upto_end {n : Nat} (r f : Nat → Int) (i : Nat) (hi : i < n) : upto n r f i = r i := by unfold upto; rw [if_pos hi]
theorem upto_next (k : Nat) (r f : Nat → Int) {v : Int} (hv : r k = v) (i : Nat) : upd (upto k r f) k v i = upto (k + 1) r f i := by
  unfold upd upto
  by_cases h : i = k
  · subst h
    rw [if_pos rfl, if_pos (by omega), hv]
  · rw [if_neg h]
    by_cases h2 : i < k
    · rw [if_pos h2, if_pos (by omega)]
    · rw [if_neg h2, if_neg (by omega)]
theorem rowD {w : World} {g : Nat} {T : TypeId} {n : Nat} {f : Nat → Int} (h : Row w g T n f) : Row w.drew g T n f := h

theorem info49 (f : Nat → Int) : (Try.prog.info? 49).map (·.size) = some (arr 4 f).size := by rw [arr_size]; kernel_rfl
theorem info51 (f : Nat → Int) : (Try.prog.info? 51).map (·.size) = some (arr 4 f).size := by rw [arr_size]; kernel_rfl
theorem info80 (f : Nat → Int) : (Try.prog.info? 80).map (·.size) = some (arr 8 f).size := by rw [arr_size]; kernel_rfl

end Go.Proofs.Ytkeocdebfgcnnaa.Ord

/- The contracts of plus and minus. -/
namespace Go.Proofs.Ytkeocdebfgcnnaa.Ord
open Go.RowKit


set_option maxRecDepth 100000 in
set_option maxHeartbeats 1000000 in
theorem plus_any (f g : Nat → Int) (w : World) (hf : Wds f 4) (hg : Wds g 4) :
    Calls Try.prog 106 #[.agg (arr 4 f), .agg (arr 4 g)] w fun r w' => r = .returned (.tuple #[.agg (arr 4 (ps f g)), .int .u64 (pc f g 4)]) ∧ Below w.heap.size w w' := by
  go_enter Try.func106, Try.ntmps106
  go_wp2
  rw [show #[Value.int IntKind.u64 0, Value.int IntKind.u64 0, Value.int IntKind.u64 0, Value.int IntKind.u64 0] = arr 4 (fun _ => 0) from rfl]
  have R1 : Row (((w.alloc (.cells (arr 4 f) 49)).alloc (.cells (arr 4 g) 49)).alloc (.cells (arr 4 fun _ => 0) 49)) w.heap.size 49 4 f := ((Row.new w 49 4 f).alloc _).alloc _
  have R2 : Row (((w.alloc (.cells (arr 4 f) 49)).alloc (.cells (arr 4 g) 49)).alloc (.cells (arr 4 fun _ => 0) 49)) (w.heap.size + 1) 49 4 g := (Row.new' _ 49 4 _ (by simp)).alloc _
  have R3 : Row (((w.alloc (.cells (arr 4 f) 49)).alloc (.cells (arr 4 g) 49)).alloc (.cells (arr 4 fun _ => 0) 49)) (w.heap.size + 1 + 1) 49 4 (fun _ => 0) := Row.new' _ 49 4 _ (by simp)
  have O : Below w.heap.size w (((w.alloc (.cells (arr 4 f) 49)).alloc (.cells (arr 4 g) 49)).alloc (.cells (arr 4 fun _ => 0) 49)) := (((Below.refl _ _).alloc (Nat.le_refl _) _).alloc (by simp) _).alloc (by simp; omega) _
  generalize (((w.alloc (.cells (arr 4 f) 49)).alloc (.cells (arr 4 g) 49)).alloc (.cells (arr 4 fun _ => 0) 49)) = W at R1 R2 R3 O ⊢
  go_loopw [6, 8] (fun c i wr => ∃ k : Nat, k ≤ 4 ∧ c = .int .u64 (pc f g k) ∧ i = .int .i64 k ∧ Row wr w.heap.size 49 4 (upto k (ps f g) f) ∧ Row wr (w.heap.size + 1) 49 4 g ∧ Row wr (w.heap.size + 1 + 1) 49 4 (fun _ => 0) ∧ Below w.heap.size w wr) (fun _ i _ => 4 - (intOf i).toNat)
  case atStart => exact ⟨0, by omega, rfl, rfl, R1.congr (fun i _ => upto_zero _ _ i), R2, R3, O⟩
  case round =>
    clear R1 R2 R3 O
    obtain ⟨k, hk, rfl, rfl, R1, R2, R3, O⟩ := hrel
    by_cases hlt : k < 4
    · have c := R1.cell (i := k) hlt
      rw [upto_at] at c
      have d := R2.cell hlt
      have e := R1.free
      have i1 : (0 : Int) ≤ (k : Int) := by omega
      have i2 : (k : Int) < 4 := by omega
      have hb := pc_bd hf hg k hk
      have hr := add64_run (f k) (g k) (pc f g k) (hf k hlt).1 (hg k hlt).1 hb.1 hb.2
      have HN := hide (show pc f g (k + 1) = (f k + g k + pc f g k) / 18446744073709551616 from rfl)
      have HM := hide (show ps f g k = (f k + g k + pc f g k) % 18446744073709551616 from rfl)
      go_wp2_with fail
      go_region_with fail
      all_goals
        go_wp2
        exact ⟨⟨k + 1, by omega, by rw [HN.out], by go_num, rowD ((R1.set k ((f k + g k + pc f g k) % 18446744073709551616)).congr (fun i _ => upto_next k _ _ HM.out i)), rowD (R2.other (a := ⟨w.heap.size, k, none⟩) (by simp) _), rowD (R3.other (a := ⟨w.heap.size, k, none⟩) (by simp <;> omega) _), (O.setCell (p := ⟨w.heap.size, k, none⟩) (Nat.le_refl _) _).drew⟩, by simp [intOf]; omega⟩
    · have hk' : k = 4 := by omega
      subst hk'
      replace R1 := R1.congr (f' := ps f g) (fun i hi => upto_end _ _ i hi)
      have RR := hide (R3.setAll (ps f g))
      have OO := hide (below_setCells (g := w.heap.size + 1 + 1) (by omega) (arr 4 (ps f g)).toList 0 O)
      have HX := hide R1
      clear R1 R2 O
      go_wp2_with (first | (refine wpList_load_row rfl 49 _ rfl w.heap.size rfl 49 (arr 4 (ps f g)) (0, 0) _ ?hgplus Try.underlying49 rfl (info49 _) ?_) | (refine wpList_store_mid rfl 49 _ _ rfl (w.heap.size + 1 + 1) 0 (arr 4 (ps f g)) rfl rfl ?thplus (info49 _) (arr_one _ _) ?_))
      case hgplus => exact HX.out
      case thplus => rw [arr_size]; exact R3.there
      exact bodyPost_ret (v := .tuple #[.agg (arr 4 (ps f g)), .int .u64 (pc f g 4)]) (results_cell_tmp Try.results106 _ _ (w.heap.size + 1 + 1) 49 (arr 4 (ps f g)) (0, 0) _ (.int .u64 (pc f g 4)) rfl rfl RR.out Try.underlying49 rfl (info49 _)) rfl ⟨rfl, OO.out⟩

set_option maxRecDepth 100000 in
set_option maxHeartbeats 1000000 in
theorem minus_any (f g : Nat → Int) (w : World) (hf : Wds f 4) (hg : Wds g 4) :
    Calls Try.prog 105 #[.agg (arr 4 f), .agg (arr 4 g)] w fun r w' => r = .returned (.tuple #[.agg (arr 4 (ms f g)), .int .u64 (br f g 4)]) ∧ Below w.heap.size w w' := by
  go_enter Try.func105, Try.ntmps105
  go_wp2
  rw [show #[Value.int IntKind.u64 0, Value.int IntKind.u64 0, Value.int IntKind.u64 0, Value.int IntKind.u64 0] = arr 4 (fun _ => 0) from rfl]
  have R1 : Row (((w.alloc (.cells (arr 4 f) 49)).alloc (.cells (arr 4 g) 49)).alloc (.cells (arr 4 fun _ => 0) 49)) w.heap.size 49 4 f := ((Row.new w 49 4 f).alloc _).alloc _
  have R2 : Row (((w.alloc (.cells (arr 4 f) 49)).alloc (.cells (arr 4 g) 49)).alloc (.cells (arr 4 fun _ => 0) 49)) (w.heap.size + 1) 49 4 g := (Row.new' _ 49 4 _ (by simp)).alloc _
  have R3 : Row (((w.alloc (.cells (arr 4 f) 49)).alloc (.cells (arr 4 g) 49)).alloc (.cells (arr 4 fun _ => 0) 49)) (w.heap.size + 1 + 1) 49 4 (fun _ => 0) := Row.new' _ 49 4 _ (by simp)
  have O : Below w.heap.size w (((w.alloc (.cells (arr 4 f) 49)).alloc (.cells (arr 4 g) 49)).alloc (.cells (arr 4 fun _ => 0) 49)) := (((Below.refl _ _).alloc (Nat.le_refl _) _).alloc (by simp) _).alloc (by simp; omega) _
  generalize (((w.alloc (.cells (arr 4 f) 49)).alloc (.cells (arr 4 g) 49)).alloc (.cells (arr 4 fun _ => 0) 49)) = W at R1 R2 R3 O ⊢
  go_loopw [6, 8] (fun c i wr => ∃ k : Nat, k ≤ 4 ∧ c = .int .u64 (br f g k) ∧ i = .int .i64 k ∧ Row wr w.heap.size 49 4 (upto k (ms f g) f) ∧ Row wr (w.heap.size + 1) 49 4 g ∧ Row wr (w.heap.size + 1 + 1) 49 4 (fun _ => 0) ∧ Below w.heap.size w wr) (fun _ i _ => 4 - (intOf i).toNat)
  case atStart => exact ⟨0, by omega, rfl, rfl, R1.congr (fun i _ => upto_zero _ _ i), R2, R3, O⟩
  case round =>
    clear R1 R2 R3 O
    obtain ⟨k, hk, rfl, rfl, R1, R2, R3, O⟩ := hrel
    by_cases hlt : k < 4
    · have c := R1.cell (i := k) hlt
      rw [upto_at] at c
      have d := R2.cell hlt
      have e := R1.free
      have i1 : (0 : Int) ≤ (k : Int) := by omega
      have i2 : (k : Int) < 4 := by omega
      have hb := br_bd f g k
      have hr := sub64_run (f k) (g k) (br f g k) (hf k hlt) (hg k hlt) hb.1 hb.2
      have HN := hide (show br f g (k + 1) = if f k < g k + br f g k then 1 else 0 from rfl)
      have HM := hide (show ms f g k = (f k - g k - br f g k) % 18446744073709551616 from rfl)
      go_wp2_with fail
      go_region_with fail
      all_goals
        go_wp2
        exact ⟨⟨k + 1, by omega, by rw [HN.out], by go_num, rowD ((R1.set k ((f k - g k - br f g k) % 18446744073709551616)).congr (fun i _ => upto_next k _ _ HM.out i)), rowD (R2.other (a := ⟨w.heap.size, k, none⟩) (by simp) _), rowD (R3.other (a := ⟨w.heap.size, k, none⟩) (by simp <;> omega) _), (O.setCell (p := ⟨w.heap.size, k, none⟩) (Nat.le_refl _) _).drew⟩, by simp [intOf]; omega⟩
    · have hk' : k = 4 := by omega
      subst hk'
      replace R1 := R1.congr (f' := ms f g) (fun i hi => upto_end _ _ i hi)
      have RR := hide (R3.setAll (ms f g))
      have OO := hide (below_setCells (g := w.heap.size + 1 + 1) (by omega) (arr 4 (ms f g)).toList 0 O)
      have HX := hide R1
      clear R1 R2 O
      go_wp2_with (first | (refine wpList_load_row rfl 49 _ rfl w.heap.size rfl 49 (arr 4 (ms f g)) (0, 0) _ ?hgminus Try.underlying49 rfl (info49 _) ?_) | (refine wpList_store_mid rfl 49 _ _ rfl (w.heap.size + 1 + 1) 0 (arr 4 (ms f g)) rfl rfl ?thminus (info49 _) (arr_one _ _) ?_))
      case hgminus => exact HX.out
      case thminus => rw [arr_size]; exact R3.there
      exact bodyPost_ret (v := .tuple #[.agg (arr 4 (ms f g)), .int .u64 (br f g 4)]) (results_cell_tmp Try.results105 _ _ (w.heap.size + 1 + 1) 49 (arr 4 (ms f g)) (0, 0) _ (.int .u64 (br f g 4)) rfl rfl RR.out Try.underlying49 rfl (info49 _)) rfl ⟨rfl, OO.out⟩

end Go.Proofs.Ytkeocdebfgcnnaa.Ord

/- The contracts of modulus, once and without: one number without another one, modulo the order. -/
namespace Go.Proofs.Ytkeocdebfgcnnaa.Ord
open Go.RowKit

/-- The order of the base point. -/
def Lm : Int := 7237005577332262213973186563042994240857116359379907606001950938285454250989
def Lf : Nat → Int := fun i => [6346243789798364141, 1503914060200516822, 0, 1152921504606846976].getD i 0
theorem Lf_Q : Q Lf 4 = Lm := by decide +kernel
theorem Lf_wds : Wds Lf 4 := fun i hi => by
  rcases (show i = 0 ∨ i = 1 ∨ i = 2 ∨ i = 3 by omega) with rfl | rfl | rfl | rfl <;> exact ⟨by decide, by decide⟩

set_option maxHeartbeats 400000 in
theorem modulus_any (w : World) : Calls Try.prog 107 #[] w fun r w' => r = .returned (.agg (arr 4 Lf)) ∧ Below w.heap.size w w' := by
  go_enter Try.func107, Try.ntmps107
  go_wp2
  exact bodyPost_ret (v := .agg (arr 4 Lf)) (by simp [results, Try.results107, go_sem]; rfl) rfl ⟨rfl, (Below.refl _ _).alloc (Nat.le_refl _) _⟩

set_option maxRecDepth 100000 in
set_option maxHeartbeats 1000000 in
theorem once_any (f : Nat → Int) (c : Int) (w : World) (hf : Wds f 4) (hc : c = 0 ∨ c = 1) :
    Calls Try.prog 108 #[.agg (arr 4 f), .int .u64 c] w fun r w' => r = .returned (.agg (arr 4 fun i => f i * c)) ∧ Below w.heap.size w w' := by
  go_enter Try.func108, Try.ntmps108
  go_wp2
  rw [show #[Value.int IntKind.u64 0, Value.int IntKind.u64 0, Value.int IntKind.u64 0, Value.int IntKind.u64 0] = arr 4 (fun _ => 0) from rfl]
  have R1 : Row ((w.alloc (.cells (arr 4 f) 49)).alloc (.cells (arr 4 fun _ => 0) 49)) w.heap.size 49 4 f := (Row.new w 49 4 f).alloc _
  have R3 : Row ((w.alloc (.cells (arr 4 f) 49)).alloc (.cells (arr 4 fun _ => 0) 49)) (w.heap.size + 1) 49 4 (fun _ => 0) := Row.new' _ 49 4 _ (by simp)
  have O : Below w.heap.size w ((w.alloc (.cells (arr 4 f) 49)).alloc (.cells (arr 4 fun _ => 0) 49)) := ((Below.refl _ _).alloc (Nat.le_refl _) _).alloc (by simp) _
  generalize ((w.alloc (.cells (arr 4 f) 49)).alloc (.cells (arr 4 fun _ => 0) 49)) = W at R1 R3 O ⊢
  go_loopw [6] (fun i wr => ∃ k : Nat, k ≤ 4 ∧ i = .int .i64 k ∧ Row wr w.heap.size 49 4 (upto k (fun i => f i * c) f) ∧ Row wr (w.heap.size + 1) 49 4 (fun _ => 0) ∧ Below w.heap.size w wr) (fun i _ => 4 - (intOf i).toNat)
  case atStart => exact ⟨0, by omega, rfl, R1.congr (fun i _ => upto_zero _ _ i), R3, O⟩
  case round =>
    clear R1 R3 O
    obtain ⟨k, hk, rfl, R1, R3, O⟩ := hrel
    by_cases hlt : k < 4
    · have cc := R1.cell (i := k) hlt
      rw [upto_at] at cc
      have e := R1.free k
      have i1 : (0 : Int) ≤ (k : Int) := by omega
      have i2 : (k : Int) < 4 := by omega
      obtain ⟨f0, f1⟩ := hf k hlt
      have hw : IntKind.u64.wrap (f k * c) = f k * c := by
        rcases hc with rfl | rfl
        · rw [Int.mul_zero]; decide
        · rw [Int.mul_one]; exact wrap64u ⟨f0, f1⟩
      have m0 : 0 ≤ f k * c := by rcases hc with rfl | rfl <;> omega
      have m1 : f k * c < 18446744073709551616 := by rcases hc with rfl | rfl <;> omega
      have RR := hide ((R1.set k (f k * c)).congr (fun i _ => upto_next k (fun i => f i * c) f rfl i))
      have R3' := hide (R3.other (a := ⟨w.heap.size, k, none⟩) (by simp) (.int .u64 (f k * c)))
      have O' := hide (O.setCell (p := ⟨w.heap.size, k, none⟩) (Nat.le_refl _) (.int .u64 (f k * c)))
      clear R1 R3 O
      go_wp2
      go_roundw
      case rel => exact ⟨k + 1, by omega, by go_num, RR.out, R3'.out, O'.out⟩
      case measure => simp [intOf]; omega
    · have hk' : k = 4 := by omega
      subst hk'
      replace R1 := R1.congr (f' := fun i => f i * c) (fun i hi => upto_end _ _ i hi)
      have RR := hide (R3.setAll (fun i => f i * c))
      have OO := hide (below_setCells (g := w.heap.size + 1) (by omega) (arr 4 (fun i => f i * c)).toList 0 O)
      have HX := hide R1
      clear R1 O
      go_wp2_with (first | (refine wpList_load_row rfl 49 _ rfl w.heap.size rfl 49 (arr 4 (fun i => f i * c)) (0, 0) _ ?hgo Try.underlying49 rfl (info49 _) ?_) | (refine wpList_store_mid rfl 49 _ _ rfl (w.heap.size + 1) 0 (arr 4 (fun i => f i * c)) rfl rfl ?tho (info49 _) (arr_one _ _) ?_))
      case hgo => exact HX.out
      case tho => rw [arr_size]; exact R3.there
      exact bodyPost_ret (v := .agg (arr 4 fun i => f i * c)) (results_cell_row Try.results108 _ _ (w.heap.size + 1) 49 (arr 4 (fun i => f i * c)) (0, 0) _ rfl RR.out Try.underlying49 rfl (info49 _)) rfl ⟨rfl, OO.out⟩

theorem Q_mul (f : Nat → Int) (c : Int) : ∀ n, Q (fun i => f i * c) n = Q f n * c
  | 0 => by simp [Q]
  | n + 1 => by
    simp only [Q]
    rw [Q_mul f c n, Int.add_mul, Int.mul_assoc, Int.mul_assoc, Int.mul_comm c]

theorem wval {X Y R T b c P L : Int} (hb : b = 0 ∨ b = 1) (hc : c = 0 ∨ c = 1) (hL : L < P) (e1 : R - b * P = X - Y) (e2 : T + c * P = R + L * b) (_r0 : 0 ≤ R) (r1 : R < P) (t0 : 0 ≤ T) (t1 : T < P) (h0 : - L ≤ X - Y) (h1 : X - Y < L) : T = (X - Y) % L := by
  rcases hb with rfl | rfl
  · rcases hc with rfl | rfl
    · simp only [Int.zero_mul, Int.mul_zero] at e1 e2
      rw [Int.emod_eq_of_lt (by omega) h1]
      omega
    · simp only [Int.zero_mul, Int.mul_zero, Int.one_mul] at e1 e2
      omega
  · rcases hc with rfl | rfl
    · simp only [Int.zero_mul, Int.mul_one, Int.one_mul] at e1 e2
      omega
    · simp only [Int.mul_one, Int.one_mul] at e1 e2
      have e : (X - Y) % L = (X - Y + L) % L := by rw [Int.add_emod_right]
      rw [e, Int.emod_eq_of_lt (by omega) (by omega)]
      omega

theorem Lm_P : Lm < 18446744073709551616 ^ 4 := by decide
theorem Lm_pos : 0 < Lm := by decide
theorem lmod (X : Int) : 0 ≤ X % Lm ∧ X % Lm < Lm := ⟨Int.emod_nonneg _ (by decide), Int.emod_lt_of_pos _ Lm_pos⟩
theorem dQ {X : Int} (h : 0 ≤ X ∧ X < Lm) : Q (d64 X) 4 = X := by
  have := Lm_P
  rw [d64_Q _ h.1, Int.emod_eq_of_lt h.1 (by omega)]

theorem without_val {f g : Nat → Int} (hf : Wds f 4) (hg : Wds g 4) (h0 : - Lm ≤ Q f 4 - Q g 4) (h1 : Q f 4 - Q g 4 < Lm) :
    arr 4 (ps (ms f g) (fun i => Lf i * br f g 4)) = arr 4 (d64 ((Q f 4 - Q g 4) % Lm)) := by
  have hb := br_bd f g 4
  have hb2 : br f g 4 = 0 ∨ br f g 4 = 1 := by omega
  have wl : Wds (fun i => Lf i * br f g 4) 4 := fun i hi => by
    have h := Lf_wds i hi
    show W64 (Lf i * br f g 4)
    rcases hb2 with e | e
    · rw [e, Int.mul_zero]; exact ⟨by decide, by decide⟩
    · rw [e, Int.mul_one]; exact h
  have e1 := ms_Q hf hg 4 (by omega)
  have e2 := ps_Q (ms f g) (fun i => Lf i * br f g 4) 4
  have e3 := pc_bd (ms_wds f g 4) wl 4 (by omega)
  have b1 := Q_bd (ms_wds f g 4)
  have b2 := Q_bd (ps_wds (ms f g) (fun i => Lf i * br f g 4) 4)
  rw [Q_mul, Lf_Q] at e2
  refine arr_congr (Q_inj (ps_wds _ _ 4) (d64_wds _ 4) ?_)
  rw [dQ (lmod _)]
  exact wval hb2 (by omega) Lm_P e1 e2 b1.1 b1.2 b2.1 b2.2 h0 h1

end Go.Proofs.Ytkeocdebfgcnnaa.Ord

/- The contract of without. -/
namespace Go.Proofs.Ytkeocdebfgcnnaa.Ord
open Go.RowKit

theorem wpList_build {P : Program} {ops : Array Oper} {rest : List Oper} {o : Oper} {a : Act} {w : World} {Q : Exit → Act → World → Prop} (hg : o.guard = none) (ty : TypeId) (parts : Array (Nat × Operand)) (_ho : o.op = .build ty parts) (cs : Array Value)
    (hrun : (execOp a.eval o).run P w = .ok (.value (.agg cs)) w) (h : wpList P ops Q rest (a.put o.dst (.agg cs)) w) : wpList P ops Q (o :: rest) a w :=
  wpList_plain hg fun K hK => by
    unfold Oper.wp
    rw [hrun]
    exact hK _ _ h

set_option maxRecDepth 100000 in
set_option maxHeartbeats 2000000 in
theorem without_gen (f g r l t : Nat → Int) (b c : Int) (w : World)
    (H0 : ∀ w, Calls Try.prog 105 #[.agg (arr 4 f), .agg (arr 4 g)] w fun x w' => x = .returned (.tuple #[.agg (arr 4 r), .int .u64 b]) ∧ Below w.heap.size w w')
    (H2 : ∀ w, Calls Try.prog 108 #[.agg (arr 4 Lf), .int .u64 b] w fun x w' => x = .returned (.agg (arr 4 l)) ∧ Below w.heap.size w w')
    (H3 : ∀ w, Calls Try.prog 106 #[.agg (arr 4 r), .agg (arr 4 l)] w fun x w' => x = .returned (.tuple #[.agg (arr 4 t), .int .u64 c]) ∧ Below w.heap.size w w') :
    Calls Try.prog 99 #[.agg (arr 4 f), .agg (arr 4 g)] w fun x w' => x = .returned (.agg (arr 4 t)) ∧ Below w.heap.size w w' := by
  have C0 := hide H0
  have C1 := hide modulus_any
  have C2 := hide H2
  have C3 := hide H3
  clear H0 H2 H3
  have R1 : Row (((w.alloc (.cells (arr 4 f) 49)).alloc (.cells (arr 4 g) 49)).alloc (.cells (arr 4 fun _ => 0) 51)) w.heap.size 49 4 f := ((Row.new w 49 4 f).alloc _).alloc _
  have R2 : Row (((w.alloc (.cells (arr 4 f) 49)).alloc (.cells (arr 4 g) 49)).alloc (.cells (arr 4 fun _ => 0) 51)) (w.heap.size + 1) 49 4 g := (Row.new' _ 49 4 _ (by simp)).alloc _
  have R3 : Row (((w.alloc (.cells (arr 4 f) 49)).alloc (.cells (arr 4 g) 49)).alloc (.cells (arr 4 fun _ => 0) 51)) (w.heap.size + 1 + 1) 51 4 (fun _ => 0) := Row.new' _ 51 4 _ (by simp)
  have O : Below w.heap.size w (((w.alloc (.cells (arr 4 f) 49)).alloc (.cells (arr 4 g) 49)).alloc (.cells (arr 4 fun _ => 0) 51)) := (((Below.refl _ _).alloc (Nat.le_refl _) _).alloc (by simp) _).alloc (by simp; omega) _
  have HR := hide (And.intro R1 (And.intro R2 (And.intro R3 O)))
  clear R1 R2 R3 O
  go_enter Try.func99, Try.ntmps99
  go_wp2_with (first | (refine wpList_load_row rfl 49 _ rfl w.heap.size rfl 49 (arr 4 f) (0, 0) _ HR.out.1 Try.underlying49 rfl (info49 _) ?_) | (refine wpList_load_row rfl 49 _ rfl (w.heap.size + 1) rfl 49 (arr 4 g) (0, 0) _ HR.out.2.1 Try.underlying49 rfl (info49 _) ?_))
  rw [show #[Value.int IntKind.u64 0, Value.int IntKind.u64 0, Value.int IntKind.u64 0, Value.int IntKind.u64 0] = arr 4 (fun _ => 0) from rfl]
  obtain ⟨R1, R2, R3, O⟩ := HR.out
  clear HR R1 R2
  generalize (((w.alloc (.cells (arr 4 f) 49)).alloc (.cells (arr 4 g) 49)).alloc (.cells (arr 4 fun _ => 0) 51)) = W at R3 O ⊢
  refine (C0.out _).mono ?_
  rintro _ w1 ⟨rfl, hb1⟩
  replace R3 := R3.keep hb1
  replace O := O.trans (hb1.mono O.size)
  clear hb1
  have RC : Row (w1.alloc (.cells #[Value.int IntKind.u64 0, Value.int IntKind.u64 0, Value.int IntKind.u64 0, Value.int IntKind.u64 0] 49)) w1.heap.size 49 4 (fun _ => 0) := Row.new w1 49 4 (fun _ => 0)
  have gl := R3.lt
  have RR := hide (RC.setAll r)
  have BB := below_setCells (g := w1.heap.size) (Nat.le_refl _) (arr 4 r).toList 0 (new_below w1 (.cells #[Value.int IntKind.u64 0, Value.int IntKind.u64 0, Value.int IntKind.u64 0, Value.int IntKind.u64 0] 49))
  have R3' := hide (R3.keep BB)
  have O' := hide (O.trans (BB.mono O.size))
  clear R3 O BB
  go_wp2_with (refine wpList_store_mid rfl 49 _ _ rfl w1.heap.size 0 (arr 4 r) rfl rfl ?thr (info49 _) (arr_one _ _) ?_)
  case thr => rw [arr_size]; exact RC.there
  have R3 := R3'.out
  have O := O'.out
  replace RC := RR.out
  clear R3' O' RR
  generalize w1.heap.size = gc at *
  generalize (w1.alloc (.cells #[Value.int IntKind.u64 0, Value.int IntKind.u64 0, Value.int IntKind.u64 0, Value.int IntKind.u64 0] 49)).setCells gc 0 (arr 4 r).toList = W2 at *
  refine region_cut (fun a0 a' w' => a' = (((((((a0.put (some 14) (.agg (arr 4 r))).put (some 15) (.agg (arr 4 Lf))).put (some 16) (.int .u64 b)).put (some 17) (.agg (arr 4 l))).put (some 18) (.tuple #[.agg (arr 4 t), .int .u64 c])).put (some 13) (.tuple #[.agg (arr 4 t), .int .u64 c])).put (some 19) (.agg (arr 4 t))).put (some 20) (.int .u64 c) ∧ Row w' gc 49 4 t ∧ Row w' (w.heap.size + 1 + 1) 51 4 (fun _ => 0) ∧ Below w.heap.size w w') (by kernel_rfl) ?_ ?_
  · clear RC R3 O
    rintro _ w8 ⟨rfl, RC, R3, O⟩
    have RR := hide (R3.setAll t)
    have OO := hide (below_setCells (g := w.heap.size + 1 + 1) (by omega) (arr 4 t).toList 0 O)
    have HX := hide RC
    clear RC O
    go_simp
    go_wp2_with (first | (refine wpList_load_row rfl 49 _ rfl gc rfl 49 (arr 4 t) (0, 0) _ ?hgt Try.underlying49 rfl (info49 _) ?_) | (refine wpList_build rfl 51 _ rfl (arr 4 t) (by kernel_rfl) ?_) | (refine wpList_store_mid rfl 51 _ _ rfl (w.heap.size + 1 + 1) 0 (arr 4 t) rfl rfl ?tht (info51 _) (arr_one _ _) ?_))
    case hgt => exact HX.out
    case tht => rw [arr_size]; exact R3.there
    exact bodyPost_ret (v := .agg (arr 4 t)) (results_cell_row Try.results99 _ _ (w.heap.size + 1 + 1) 51 (arr 4 t) (0, 0) _ rfl RR.out Try.underlying51 rfl (info51 _)) rfl ⟨rfl, OO.out⟩
  · intro hrest
    replace RC := rowD RC
    replace R3 := rowD R3
    replace O := O.drew
    generalize W2.drew = W0 at *
    refine wpAny_take (i := 2) (v := .int .u64 b) rfl (by kernel_rfl) (by kernel_rfl) (by kernel_rfl) (fun _ _ _ h => h) (Or.inl ⟨by rfl, fun _ => by kernel_rfl⟩) ?_
    refine wpAny_ready (rs := [0, 1]) (by kernel_rfl) (by simp) ?_
    refine ready_load rfl rfl 49 _ rfl gc (by kernel_rfl) 49 (arr 4 r) (0, 0) _ RC Try.underlying49 rfl (info49 _) ?_ ?_
    · skip
      refine wpAny_ready (rs := [1]) (by kernel_rfl) (by simp) ?_
      refine ready_call 107 #[] rfl rfl (by kernel_rfl) ?_ ?_
      · refine (C1.out _).mono ?_
        rintro _ w102 ⟨rfl, hb102⟩
        refine ⟨_, rfl, ?_⟩
        replace R3 := R3.keep hb102
        replace RC := RC.keep hb102
        replace O := O.trans (hb102.mono O.size)
        clear hb102
        refine wpAny_ready (rs := [3]) (by kernel_rfl) (by simp) ?_
        refine ready_call 108 #[.agg (arr 4 Lf), .int .u64 b] rfl rfl (by kernel_rfl) ?_ ?_
        · refine (C2.out _).mono ?_
          rintro _ w103 ⟨rfl, hb103⟩
          refine ⟨_, rfl, ?_⟩
          replace R3 := R3.keep hb103
          replace RC := RC.keep hb103
          replace O := O.trans (hb103.mono O.size)
          clear hb103
          refine wpAny_ready (rs := [4]) (by kernel_rfl) (by simp) ?_
          refine ready_call 106 #[.agg (arr 4 r), .agg (arr 4 l)] rfl rfl (by kernel_rfl) ?_ ?_
          · refine (C3.out _).mono ?_
            rintro _ w104 ⟨rfl, hb104⟩
            refine ⟨_, rfl, ?_⟩
            replace R3 := R3.keep hb104
            replace RC := RC.keep hb104
            replace O := O.trans (hb104.mono O.size)
            clear hb104
            refine wpAny_take (i := 5) (v := .tuple #[.agg (arr 4 t), .int .u64 c]) rfl (by kernel_rfl) (by kernel_rfl) (by kernel_rfl) (fun _ _ _ h => h) (Or.inl ⟨by rfl, fun _ => by kernel_rfl⟩) ?_
            refine wpAny_take (i := 6) (v := .agg (arr 4 t)) rfl (by kernel_rfl) (by kernel_rfl) (by kernel_rfl) (fun _ _ _ h => h) (Or.inl ⟨by rfl, fun _ => by kernel_rfl⟩) ?_
            refine wpAny_take (i := 7) (v := .int .u64 c) rfl (by kernel_rfl) (by kernel_rfl) (by kernel_rfl) (fun _ _ _ h => h) (Or.inl ⟨by rfl, fun _ => by kernel_rfl⟩) ?_
            refine wpAny_ready (rs := [8]) (by kernel_rfl) (by simp) ?_
            refine ready_store rfl rfl 49 _ _ rfl gc 0 (arr 4 t) (by kernel_rfl) (by kernel_rfl) (by rw [arr_size]; exact RC.there) (info49 _) (arr_one _ _) ?_ ?_
            · skip
              exact wpAny_done (by kernel_rfl) (hrest _ _ ⟨by kernel_rfl, RC.setAll _, R3.setOther (by omega) _ _, below_setCells (by omega) _ _ O⟩) _
            exact AllReady.nil
          exact AllReady.nil
        exact AllReady.nil
      exact AllReady.nil
    refine ready_call 107 #[] rfl rfl (by kernel_rfl) ?_ ?_
    · refine (C1.out _).mono ?_
      rintro _ w106 ⟨rfl, hb106⟩
      refine ⟨_, rfl, ?_⟩
      replace R3 := R3.keep hb106
      replace RC := RC.keep hb106
      replace O := O.trans (hb106.mono O.size)
      clear hb106
      refine wpAny_ready (rs := [0, 3]) (by kernel_rfl) (by simp) ?_
      refine ready_load rfl rfl 49 _ rfl gc (by kernel_rfl) 49 (arr 4 r) (0, 0) _ RC Try.underlying49 rfl (info49 _) ?_ ?_
      · skip
        refine wpAny_ready (rs := [3]) (by kernel_rfl) (by simp) ?_
        refine ready_call 108 #[.agg (arr 4 Lf), .int .u64 b] rfl rfl (by kernel_rfl) ?_ ?_
        · refine (C2.out _).mono ?_
          rintro _ w108 ⟨rfl, hb108⟩
          refine ⟨_, rfl, ?_⟩
          replace R3 := R3.keep hb108
          replace RC := RC.keep hb108
          replace O := O.trans (hb108.mono O.size)
          clear hb108
          refine wpAny_ready (rs := [4]) (by kernel_rfl) (by simp) ?_
          refine ready_call 106 #[.agg (arr 4 r), .agg (arr 4 l)] rfl rfl (by kernel_rfl) ?_ ?_
          · refine (C3.out _).mono ?_
            rintro _ w109 ⟨rfl, hb109⟩
            refine ⟨_, rfl, ?_⟩
            replace R3 := R3.keep hb109
            replace RC := RC.keep hb109
            replace O := O.trans (hb109.mono O.size)
            clear hb109
            refine wpAny_take (i := 5) (v := .tuple #[.agg (arr 4 t), .int .u64 c]) rfl (by kernel_rfl) (by kernel_rfl) (by kernel_rfl) (fun _ _ _ h => h) (Or.inl ⟨by rfl, fun _ => by kernel_rfl⟩) ?_
            refine wpAny_take (i := 6) (v := .agg (arr 4 t)) rfl (by kernel_rfl) (by kernel_rfl) (by kernel_rfl) (fun _ _ _ h => h) (Or.inl ⟨by rfl, fun _ => by kernel_rfl⟩) ?_
            refine wpAny_take (i := 7) (v := .int .u64 c) rfl (by kernel_rfl) (by kernel_rfl) (by kernel_rfl) (fun _ _ _ h => h) (Or.inl ⟨by rfl, fun _ => by kernel_rfl⟩) ?_
            refine wpAny_ready (rs := [8]) (by kernel_rfl) (by simp) ?_
            refine ready_store rfl rfl 49 _ _ rfl gc 0 (arr 4 t) (by kernel_rfl) (by kernel_rfl) (by rw [arr_size]; exact RC.there) (info49 _) (arr_one _ _) ?_ ?_
            · skip
              exact wpAny_done (by kernel_rfl) (hrest _ _ ⟨by kernel_rfl, RC.setAll _, R3.setOther (by omega) _ _, below_setCells (by omega) _ _ O⟩) _
            exact AllReady.nil
          exact AllReady.nil
        exact AllReady.nil
      refine ready_call 108 #[.agg (arr 4 Lf), .int .u64 b] rfl rfl (by kernel_rfl) ?_ ?_
      · refine (C2.out _).mono ?_
        rintro _ w111 ⟨rfl, hb111⟩
        refine ⟨_, rfl, ?_⟩
        replace R3 := R3.keep hb111
        replace RC := RC.keep hb111
        replace O := O.trans (hb111.mono O.size)
        clear hb111
        refine wpAny_ready (rs := [0]) (by kernel_rfl) (by simp) ?_
        refine ready_load rfl rfl 49 _ rfl gc (by kernel_rfl) 49 (arr 4 r) (0, 0) _ RC Try.underlying49 rfl (info49 _) ?_ ?_
        · skip
          refine wpAny_ready (rs := [4]) (by kernel_rfl) (by simp) ?_
          refine ready_call 106 #[.agg (arr 4 r), .agg (arr 4 l)] rfl rfl (by kernel_rfl) ?_ ?_
          · refine (C3.out _).mono ?_
            rintro _ w113 ⟨rfl, hb113⟩
            refine ⟨_, rfl, ?_⟩
            replace R3 := R3.keep hb113
            replace RC := RC.keep hb113
            replace O := O.trans (hb113.mono O.size)
            clear hb113
            refine wpAny_take (i := 5) (v := .tuple #[.agg (arr 4 t), .int .u64 c]) rfl (by kernel_rfl) (by kernel_rfl) (by kernel_rfl) (fun _ _ _ h => h) (Or.inl ⟨by rfl, fun _ => by kernel_rfl⟩) ?_
            refine wpAny_take (i := 6) (v := .agg (arr 4 t)) rfl (by kernel_rfl) (by kernel_rfl) (by kernel_rfl) (fun _ _ _ h => h) (Or.inl ⟨by rfl, fun _ => by kernel_rfl⟩) ?_
            refine wpAny_take (i := 7) (v := .int .u64 c) rfl (by kernel_rfl) (by kernel_rfl) (by kernel_rfl) (fun _ _ _ h => h) (Or.inl ⟨by rfl, fun _ => by kernel_rfl⟩) ?_
            refine wpAny_ready (rs := [8]) (by kernel_rfl) (by simp) ?_
            refine ready_store rfl rfl 49 _ _ rfl gc 0 (arr 4 t) (by kernel_rfl) (by kernel_rfl) (by rw [arr_size]; exact RC.there) (info49 _) (arr_one _ _) ?_ ?_
            · skip
              exact wpAny_done (by kernel_rfl) (hrest _ _ ⟨by kernel_rfl, RC.setAll _, R3.setOther (by omega) _ _, below_setCells (by omega) _ _ O⟩) _
            exact AllReady.nil
          exact AllReady.nil
        exact AllReady.nil
      exact AllReady.nil
    exact AllReady.nil

end Go.Proofs.Ytkeocdebfgcnnaa.Ord

/- The contracts of the scalars' Add and Neg. -/
namespace Go.Proofs.Ytkeocdebfgcnnaa.Ord
open Go.RowKit

theorem without_any (f g : Nat → Int) (w : World) (hf : Wds f 4) (hg : Wds g 4) (h0 : - Lm ≤ Q f 4 - Q g 4) (h1 : Q f 4 - Q g 4 < Lm) :
    Calls Try.prog 99 #[.agg (arr 4 f), .agg (arr 4 g)] w fun x w' => x = .returned (.agg (arr 4 (d64 ((Q f 4 - Q g 4) % Lm)))) ∧ Below w.heap.size w w' := by
  have hb := br_bd f g 4
  have hb2 : br f g 4 = 0 ∨ br f g 4 = 1 := by omega
  have wl : Wds (fun i => Lf i * br f g 4) 4 := fun i hi => by
    have h := Lf_wds i hi
    show W64 (Lf i * br f g 4)
    rcases hb2 with e | e
    · rw [e, Int.mul_zero]; exact ⟨by decide, by decide⟩
    · rw [e, Int.mul_one]; exact h
  have := without_gen f g (ms f g) (fun i => Lf i * br f g 4) (ps (ms f g) (fun i => Lf i * br f g 4)) (br f g 4) (pc (ms f g) (fun i => Lf i * br f g 4) 4) w
    (fun w => minus_any f g w hf hg) (fun w => once_any Lf _ w Lf_wds hb2) (fun w => plus_any _ _ w (ms_wds f g 4) wl)
  rwa [without_val hf hg h0 h1] at this

end Go.Proofs.Ytkeocdebfgcnnaa.Ord

/- The contract of next: a number with a further half word below it, modulo the order. -/
namespace Go.Proofs.Ytkeocdebfgcnnaa.Ord
open Go.RowKit

theorem nx_or {x y : Int} (_hx : W64 x) (hy : 0 ≤ y) (hy1 : y < 4294967296) : bits BinOp.or IntKind.u64 (IntKind.u64.wrap (x * 4294967296)) y = x * 4294967296 % 18446744073709551616 + y := by
  rw [IntKind.wrap_u64, or_join 32 4294967296 (by decide) ⟨by omega, by omega⟩ ⟨by omega, by omega⟩ (by omega) (by omega)]
theorem nx_and {x : Int} (hx : W64 x) : bits BinOp.and IntKind.u64 x 268435455 = x % 268435456 := by
  obtain ⟨h0, h1⟩ := hx
  rw [u64_and x _ h0 (by omega) (by decide) (by decide)]
  have e : (268435455 : Int).toNat = 268435455 := by decide
  have e2 : x.toNat &&& 268435455 = x.toNat % 268435456 := Nat.and_two_pow_sub_one_eq_mod _ 28
  rw [e, e2]
  omega

set_option maxRecDepth 100000 in
set_option maxHeartbeats 1000000 in
theorem next_gen (x0 x1 x2 x3 H : Int) (t : Nat → Int) (w : World) (k0 : W64 x0) (k1 : W64 x1) (k2 : W64 x2) (k3 : W64 x3) (h0 : 0 ≤ H) (h1 : H < 4294967296)
    (HC : ∀ w, Calls Try.prog 99 #[.agg #[.int .u64 (x0 * 4294967296 % 18446744073709551616 + H), .int .u64 (x1 * 4294967296 % 18446744073709551616 + x0 / 4294967296), .int .u64 (x2 * 4294967296 % 18446744073709551616 + x1 / 4294967296), .int .u64 (x3 % 268435456 * 4294967296 + x2 / 4294967296)], .agg #[.int .u64 (x3 / 268435456 * 6346243789798364141 % 18446744073709551616), .int .u64 ((x3 / 268435456 * 1503914060200516822 + x3 / 268435456 * 6346243789798364141 / 18446744073709551616) % 18446744073709551616), .int .u64 ((x3 / 268435456 * 1503914060200516822 + x3 / 268435456 * 6346243789798364141 / 18446744073709551616) / 18446744073709551616), .int .u64 0]] w fun x w' => x = .returned (.agg (arr 4 t)) ∧ Below w.heap.size w w') :
    Calls Try.prog 87 #[.agg #[.int .u64 x0, .int .u64 x1, .int .u64 x2, .int .u64 x3], .int .u64 H] w fun x w' => x = .returned (.agg (arr 4 t)) ∧ Below w.heap.size w w' := by
  have e0 := nx_or k0 h0 h1
  have e1 := nx_or k1 (y := x0 / 4294967296) (by unfold W64 at *; omega) (by unfold W64 at *; omega)
  have e2 := nx_or k2 (y := x1 / 4294967296) (by unfold W64 at *; omega) (by unfold W64 at *; omega)
  have e3 := nx_and k3
  have e4 : bits BinOp.or IntKind.u64 (x3 % 268435456 * 4294967296) (x2 / 4294967296) = x3 % 268435456 * 4294967296 + x2 / 4294967296 := by
    unfold W64 at *
    rw [or_join 32 4294967296 (by decide) ⟨by omega, by omega⟩ ⟨by omega, by omega⟩ (by omega) (by omega)]
  have q0 : W64 (x3 / 268435456) := by unfold W64 at *; omega
  have C := hide HC
  have c1 : W64 (x3 / 268435456 * 6346243789798364141 / 18446744073709551616) := by unfold W64 at *; omega
  have p1 := fun w => productAnd_any (x3 / 268435456) 6346243789798364141 0 0 w q0 ⟨by decide, by decide⟩ ⟨by decide, by decide⟩ ⟨by decide, by decide⟩
  have p2 := fun w => productAnd_any (x3 / 268435456) 1503914060200516822 (x3 / 268435456 * 6346243789798364141 / 18446744073709551616) 0 w q0 ⟨by decide, by decide⟩ c1 ⟨by decide, by decide⟩
  simp only [Int.add_zero] at p1 p2
  have P1 := hide p1
  have P2 := hide p2
  clear HC p1 p2 c1
  have O : Below w.heap.size w ((((w.alloc (.cells #[.int .u64 x0, .int .u64 x1, .int .u64 x2, .int .u64 x3] 51)).alloc (.cells #[.int .u64 0, .int .u64 0, .int .u64 0, .int .u64 0] 51)).alloc (.cells #[.int .u64 x0, .int .u64 x1, .int .u64 x2, .int .u64 x3] 49)).alloc (.cells #[.int .u64 (x0 * 4294967296 % 18446744073709551616 + H), .int .u64 (x1 * 4294967296 % 18446744073709551616 + x0 / 4294967296), .int .u64 (x2 * 4294967296 % 18446744073709551616 + x1 / 4294967296), .int .u64 (x3 % 268435456 * 4294967296 + x2 / 4294967296)] 49)) := ((((Below.refl _ _).alloc (Nat.le_refl _) _).alloc (by simp) _).alloc (by simp; omega) _).alloc (by simp; omega) _
  have R3 : Row ((((w.alloc (.cells #[.int .u64 x0, .int .u64 x1, .int .u64 x2, .int .u64 x3] 51)).alloc (.cells #[.int .u64 0, .int .u64 0, .int .u64 0, .int .u64 0] 51)).alloc (.cells #[.int .u64 x0, .int .u64 x1, .int .u64 x2, .int .u64 x3] 49)).alloc (.cells #[.int .u64 (x0 * 4294967296 % 18446744073709551616 + H), .int .u64 (x1 * 4294967296 % 18446744073709551616 + x0 / 4294967296), .int .u64 (x2 * 4294967296 % 18446744073709551616 + x1 / 4294967296), .int .u64 (x3 % 268435456 * 4294967296 + x2 / 4294967296)] 49)) (w.heap.size + 1) 51 4 (fun _ => 0) := ((Row.new' _ 51 4 (fun _ => 0) (by simp)).alloc _).alloc _
  have HO := hide (And.intro O R3)
  clear O R3
  go_enter Try.func87, Try.ntmps87
  go_wp2_with fail
  refine (P1.out _).mono ?_
  rintro _ w1 ⟨rfl, rfl⟩
  go_wp2_with fail
  refine (P2.out _).mono ?_
  rintro _ w2 ⟨rfl, rfl⟩
  go_wp2_with fail
  refine (C.out _).mono ?_
  rintro _ w3 ⟨rfl, hb⟩
  have R3 := HO.out.2.keep hb
  have O := HO.out.1.trans (hb.mono HO.out.1.size)
  clear hb HO C P1 P2 e0 e1 e2 e3 e4
  have RR := hide (R3.setAll t)
  have OO := hide (below_setCells (g := w.heap.size + 1) (by omega) (arr 4 t).toList 0 O)
  clear O
  go_wp2_with (refine wpList_store_mid rfl 51 _ _ rfl (w.heap.size + 1) 0 (arr 4 t) rfl rfl ?thn (info51 _) (arr_one _ _) ?_)
  case thn => rw [arr_size]; exact R3.there
  exact bodyPost_ret (v := .agg (arr 4 t)) (results_cell_row Try.results87 _ _ (w.heap.size + 1) 51 (arr 4 t) (0, 0) _ rfl RR.out Try.underlying51 rfl (info51 _)) rfl ⟨rfl, OO.out⟩

theorem Q4 (f : Nat → Int) : Q f 4 = f 0 + f 1 * 18446744073709551616 + f 2 * 340282366920938463463374607431768211456 + f 3 * 6277101735386680763835789423207666416102355444464034512896 := by
  simp [Q]

/-- What rest is. -/
def nf (x0 x1 x2 x3 H : Int) : Nat → Int := fun i => [x0 * 4294967296 % 18446744073709551616 + H, x1 * 4294967296 % 18446744073709551616 + x0 / 4294967296, x2 * 4294967296 % 18446744073709551616 + x1 / 4294967296, x3 % 268435456 * 4294967296 + x2 / 4294967296].getD i 0
def ng (o : Int) : Nat → Int := fun i => [o * 6346243789798364141 % 18446744073709551616, (o * 1503914060200516822 + o * 6346243789798364141 / 18446744073709551616) % 18446744073709551616, (o * 1503914060200516822 + o * 6346243789798364141 / 18446744073709551616) / 18446744073709551616, 0].getD i 0

theorem nf_Q (x0 x1 x2 x3 H : Int) : Q (nf x0 x1 x2 x3 H) 4 = (x0 + x1 * 18446744073709551616 + x2 * 340282366920938463463374607431768211456 + x3 % 268435456 * 6277101735386680763835789423207666416102355444464034512896) * 4294967296 + H := by
  rw [Q4]
  show (x0 * 4294967296 % 18446744073709551616 + H) + (x1 * 4294967296 % 18446744073709551616 + x0 / 4294967296) * 18446744073709551616 + (x2 * 4294967296 % 18446744073709551616 + x1 / 4294967296) * 340282366920938463463374607431768211456 + (x3 % 268435456 * 4294967296 + x2 / 4294967296) * 6277101735386680763835789423207666416102355444464034512896 = _
  omega
theorem ng_Q (o : Int) : Q (ng o) 4 = o * 27742317777372353535851937790883648493 := by
  rw [Q4]
  show o * 6346243789798364141 % 18446744073709551616 + ((o * 1503914060200516822 + o * 6346243789798364141 / 18446744073709551616) % 18446744073709551616) * 18446744073709551616 + ((o * 1503914060200516822 + o * 6346243789798364141 / 18446744073709551616) / 18446744073709551616) * 340282366920938463463374607431768211456 + 0 * 6277101735386680763835789423207666416102355444464034512896 = _
  omega

theorem next_any (N H : Int) (w : World) (hN : 0 ≤ N ∧ N < Lm) (h0 : 0 ≤ H) (h1 : H < 4294967296) :
    Calls Try.prog 87 #[.agg (arr 4 (d64 N)), .int .u64 H] w fun x w' => x = .returned (.agg (arr 4 (d64 ((N * 4294967296 + H) % Lm)))) ∧ Below w.heap.size w w' := by
  have k0 := d64_wds N 4 0 (by omega)
  have k1 := d64_wds N 4 1 (by omega)
  have k2 := d64_wds N 4 2 (by omega)
  have k3 := d64_wds N 4 3 (by omega)
  have hq := dQ hN
  rw [Q4] at hq
  show Calls Try.prog 87 #[.agg #[.int .u64 (d64 N 0), .int .u64 (d64 N 1), .int .u64 (d64 N 2), .int .u64 (d64 N 3)], .int .u64 H] w _
  generalize d64 N 0 = x0 at *
  generalize d64 N 1 = x1 at *
  generalize d64 N 2 = x2 at *
  generalize d64 N 3 = x3 at *
  refine next_gen x0 x1 x2 x3 H _ w k0 k1 k2 k3 h0 h1 (fun w => ?_)
  unfold W64 at k0 k1 k2 k3
  have wf : Wds (nf x0 x1 x2 x3 H) 4 := fun i hi => by
    rcases (show i = 0 ∨ i = 1 ∨ i = 2 ∨ i = 3 by omega) with rfl | rfl | rfl | rfl
    · show W64 (x0 * 4294967296 % 18446744073709551616 + H); exact ⟨by omega, by omega⟩
    · show W64 (x1 * 4294967296 % 18446744073709551616 + x0 / 4294967296); exact ⟨by omega, by omega⟩
    · show W64 (x2 * 4294967296 % 18446744073709551616 + x1 / 4294967296); exact ⟨by omega, by omega⟩
    · show W64 (x3 % 268435456 * 4294967296 + x2 / 4294967296); exact ⟨by omega, by omega⟩
  have wg : Wds (ng (x3 / 268435456)) 4 := fun i hi => by
    rcases (show i = 0 ∨ i = 1 ∨ i = 2 ∨ i = 3 by omega) with rfl | rfl | rfl | rfl
    · show W64 (x3 / 268435456 * 6346243789798364141 % 18446744073709551616); exact ⟨by omega, by omega⟩
    · show W64 ((x3 / 268435456 * 1503914060200516822 + x3 / 268435456 * 6346243789798364141 / 18446744073709551616) % 18446744073709551616); exact ⟨by omega, by omega⟩
    · show W64 ((x3 / 268435456 * 1503914060200516822 + x3 / 268435456 * 6346243789798364141 / 18446744073709551616) / 18446744073709551616); exact ⟨by omega, by omega⟩
    · show W64 0; exact ⟨by decide, by decide⟩
  have ef := nf_Q x0 x1 x2 x3 H
  have eg := ng_Q (x3 / 268435456)
  have ed : Q (nf x0 x1 x2 x3 H) 4 - Q (ng (x3 / 268435456)) 4 = N * 4294967296 + H - x3 / 268435456 * Lm := by
    rw [ef, eg, ← hq]
    unfold Lm
    omega
  have := without_any (nf x0 x1 x2 x3 H) (ng (x3 / 268435456)) w wf wg (by rw [ef, eg]; unfold Lm; omega) (by rw [ef, eg]; unfold Lm; omega)
  rw [ed, Int.sub_mul_emod_self_right] at this
  exact this

end Go.Proofs.Ytkeocdebfgcnnaa.Ord

/- The contract of modulo: 512 bits modulo the order. -/
namespace Go.Proofs.Ytkeocdebfgcnnaa.Ord
open Go.RowKit

/-- What a is after k rounds. -/
def md (f : Nat → Int) : Nat → Int
  | 0 => f 5 + f 6 * 18446744073709551616 + f 7 * 340282366920938463463374607431768211456
  | k + 1 => (md f k * 18446744073709551616 + f (4 - k)) % Lm
theorem md_bd {f : Nat → Int} (hf : Wds f 8) : ∀ k, 0 ≤ md f k ∧ md f k < Lm
  | 0 => by
    have h5 := hf 5 (by omega)
    have h6 := hf 6 (by omega)
    have h7 := hf 7 (by omega)
    unfold W64 at *
    unfold md Lm
    omega
  | k + 1 => lmod _
theorem md_step (a b : Int) : (a % Lm * 18446744073709551616 + b) % Lm = (a * 18446744073709551616 + b) % Lm := by
  rw [Int.add_emod, Int.mul_emod, Int.emod_emod_of_dvd a (Int.dvd_refl _), ← Int.mul_emod, ← Int.add_emod]
theorem md_half (N h : Int) : ((N * 4294967296 + h / 4294967296) % Lm * 4294967296 + h % 4294967296) % Lm = (N * 18446744073709551616 + h) % Lm := by
  rw [Int.add_emod, Int.mul_emod, Int.emod_emod_of_dvd _ (Int.dvd_refl Lm), ← Int.mul_emod, ← Int.add_emod]
  congr 1
  omega
theorem Q8 (f : Nat → Int) : Q f 8 = (((((f 5 + f 6 * 18446744073709551616 + f 7 * 340282366920938463463374607431768211456) * 18446744073709551616 + f 4) * 18446744073709551616 + f 3) * 18446744073709551616 + f 2) * 18446744073709551616 + f 1) * 18446744073709551616 + f 0 := by
  simp [Q]
  omega
theorem md_all (f : Nat → Int) : md f 5 = Q f 8 % Lm := by
  rw [Q8]
  have s1 : md f 1 = ((f 5 + f 6 * 18446744073709551616 + f 7 * 340282366920938463463374607431768211456) * 18446744073709551616 + f 4) % Lm := rfl
  have s2 : md f 2 = (((f 5 + f 6 * 18446744073709551616 + f 7 * 340282366920938463463374607431768211456) * 18446744073709551616 + f 4) * 18446744073709551616 + f 3) % Lm := by
    show (md f 1 * 18446744073709551616 + f 3) % Lm = _
    rw [s1, md_step]
  have s3 : md f 3 = ((((f 5 + f 6 * 18446744073709551616 + f 7 * 340282366920938463463374607431768211456) * 18446744073709551616 + f 4) * 18446744073709551616 + f 3) * 18446744073709551616 + f 2) % Lm := by
    show (md f 2 * 18446744073709551616 + f 2) % Lm = _
    rw [s2, md_step]
  have s4 : md f 4 = (((((f 5 + f 6 * 18446744073709551616 + f 7 * 340282366920938463463374607431768211456) * 18446744073709551616 + f 4) * 18446744073709551616 + f 3) * 18446744073709551616 + f 2) * 18446744073709551616 + f 1) % Lm := by
    show (md f 3 * 18446744073709551616 + f 1) % Lm = _
    rw [s3, md_step]
  show (md f 4 * 18446744073709551616 + f 0) % Lm = _
  rw [s4, md_step]

theorem and32 {x : Int} (h : W64 x) : bits BinOp.and IntKind.u64 x 4294967295 = x % 4294967296 := by
  obtain ⟨X, rfl⟩ := Int.eq_ofNat_of_zero_le h.1
  have := h.2
  rw [maskN X (by omega)]
  omega

set_option maxRecDepth 100000 in
set_option maxHeartbeats 2000000 in
theorem modulo_any (f : Nat → Int) (w : World) (hf : Wds f 8) :
    Calls Try.prog 56 #[.agg (arr 8 f)] w fun x w' => x = .returned (.agg (arr 4 (d64 (Q f 8 % Lm)))) ∧ Below w.heap.size w w' := by
  rw [← md_all]
  have hm := md_bd hf
  have R1 : Row ((w.alloc (.cells (arr 8 f) 80)).alloc (.cells (arr 4 fun _ => 0) 51)) w.heap.size 80 8 f := (Row.new w 80 8 f).alloc _
  have R2 : Row ((w.alloc (.cells (arr 8 f) 80)).alloc (.cells (arr 4 fun _ => 0) 51)) (w.heap.size + 1) 51 4 (fun _ => 0) := Row.new' _ 51 4 _ (by simp)
  have O : Below w.heap.size w ((w.alloc (.cells (arr 8 f) 80)).alloc (.cells (arr 4 fun _ => 0) 51)) := ((Below.refl _ _).alloc (Nat.le_refl _) _).alloc (by simp) _
  have c5 : ((w.alloc (.cells (arr 8 f) 80)).alloc (.cells #[Value.int IntKind.u64 0, Value.int IntKind.u64 0, Value.int IntKind.u64 0, Value.int IntKind.u64 0] 51)).cell? ⟨w.heap.size, 5, none⟩ = some (.int .u64 (f 5)) := R1.cell (i := 5) (by omega)
  have c6 : ((w.alloc (.cells (arr 8 f) 80)).alloc (.cells #[Value.int IntKind.u64 0, Value.int IntKind.u64 0, Value.int IntKind.u64 0, Value.int IntKind.u64 0] 51)).cell? ⟨w.heap.size, 6, none⟩ = some (.int .u64 (f 6)) := R1.cell (i := 6) (by omega)
  have c7 : ((w.alloc (.cells (arr 8 f) 80)).alloc (.cells #[Value.int IntKind.u64 0, Value.int IntKind.u64 0, Value.int IntKind.u64 0, Value.int IntKind.u64 0] 51)).cell? ⟨w.heap.size, 7, none⟩ = some (.int .u64 (f 7)) := R1.cell (i := 7) (by omega)
  replace R1 := R1.alloc (.cells #[.int .u64 (f 5), .int .u64 (f 6), .int .u64 (f 7), .int .u64 0] 51)
  replace R2 := R2.alloc (.cells #[.int .u64 (f 5), .int .u64 (f 6), .int .u64 (f 7), .int .u64 0] 51)
  have RA : Row (((w.alloc (.cells (arr 8 f) 80)).alloc (.cells (arr 4 fun _ => 0) 51)).alloc (.cells #[.int .u64 (f 5), .int .u64 (f 6), .int .u64 (f 7), .int .u64 0] 51)) (w.heap.size + 1 + 1) 51 4 (fun i => [f 5, f 6, f 7, 0].getD i 0) := Row.new' _ 51 4 (fun i => [f 5, f 6, f 7, 0].getD i 0) (by simp)
  replace O := O.alloc (by simp; omega) (.cells #[.int .u64 (f 5), .int .u64 (f 6), .int .u64 (f 7), .int .u64 0] 51)
  replace RA := RA.congr (f' := d64 (md f 0)) (Q_inj (fun i hi => by
    rcases (show i = 0 ∨ i = 1 ∨ i = 2 ∨ i = 3 by omega) with rfl | rfl | rfl | rfl
    · exact hf 5 (by omega)
    · exact hf 6 (by omega)
    · exact hf 7 (by omega)
    · show W64 (0 : Int); exact ⟨by decide, by decide⟩) (d64_wds _ 4) (by
    rw [dQ (hm 0), Q4]
    show f 5 + f 6 * 18446744073709551616 + f 7 * 340282366920938463463374607431768211456 + 0 * 6277101735386680763835789423207666416102355444464034512896 = f 5 + f 6 * 18446744073709551616 + f 7 * 340282366920938463463374607431768211456
    omega))
  have HR := hide (And.intro R1 (And.intro R2 (And.intro RA O)))
  clear R1 R2 RA O
  go_enter Try.func56, Try.ntmps56
  go_wp2_with (refine wpList_build rfl 51 _ rfl #[.int .u64 (f 5), .int .u64 (f 6), .int .u64 (f 7), .int .u64 0] (by kernel_rfl) ?_)
  rw [show #[Value.int IntKind.u64 0, Value.int IntKind.u64 0, Value.int IntKind.u64 0, Value.int IntKind.u64 0] = arr 4 (fun _ => 0) from rfl]
  clear c5 c6 c7
  obtain ⟨R1, R2, RA, O⟩ := HR.out
  clear HR
  generalize (((w.alloc (.cells (arr 8 f) 80)).alloc (.cells (arr 4 fun _ => 0) 51)).alloc (.cells #[.int .u64 (f 5), .int .u64 (f 6), .int .u64 (f 7), .int .u64 0] 51)) = W at *
  go_loopw [14] (fun v wr => ∃ k : Nat, k ≤ 5 ∧ v = .int .i64 k ∧ Row wr w.heap.size 80 8 f ∧ Row wr (w.heap.size + 1) 51 4 (fun _ => 0) ∧ Row wr (w.heap.size + 1 + 1) 51 4 (d64 (md f k)) ∧ Below w.heap.size w wr) (fun v _ => 5 - (intOf v).toNat)
  case atStart => exact ⟨0, by omega, rfl, R1, R2, RA, O⟩
  case round =>
    clear R1 R2 RA O
    obtain ⟨k, hk, rfl, R1, R2, RA, O⟩ := hrel
    by_cases hlt : k < 5
    · rcases (show k = 0 ∨ k = 1 ∨ k = 2 ∨ k = 3 ∨ k = 4 by omega) with rfl | rfl | rfl | rfl | rfl
      · have c := R1.cell (i := 4) (by omega)
        obtain ⟨b0, b1⟩ := hf 4 (by omega)
        have ea := and32 (hf 4 (by omega))
        have HN := hide (hm 0)
        have HE := hide (show md f (0 + 1) = ((md f 0 * 4294967296 + f 4 / 4294967296) % Lm * 4294967296 + f 4 % 4294967296) % Lm from (md_half (md f 0) (f 4)).symm)
        have HA := hide RA
        have H1 := hide R1
        have HO := hide (And.intro R2 O)
        clear RA R1 R2 O
        generalize f 4 = v at *
        generalize md f 0 = N at *
        go_wp2_with (refine wpList_load_row rfl 51 _ rfl (w.heap.size + 1 + 1) rfl 51 (arr 4 (d64 N)) (0, 0) _ HA.out Try.underlying51 rfl (info51 _) ?_)
        refine (next_any N (v / 4294967296) _ HN.out (by omega) (by omega)).mono ?_
        rintro _ w1 ⟨rfl, hb1⟩
        have RA := HA.out.keep hb1
        have R1 := H1.out.keep hb1
        have R2 := HO.out.1.keep hb1
        have O := HO.out.2.trans (hb1.mono HO.out.2.size)
        clear hb1 HA H1 HO HN
        have HN := hide (lmod (N * 4294967296 + v / 4294967296))
        generalize (N * 4294967296 + v / 4294967296) % Lm = N2 at *
        go_wp2_with fail
        refine (next_any N2 (v % 4294967296) _ HN.out (by omega) (by omega)).mono ?_
        rintro _ w2 ⟨rfl, hb2⟩
        replace RA := RA.keep hb2
        replace R1 := R1.keep hb2
        replace R2 := R2.keep hb2
        replace O := O.trans (hb2.mono O.size)
        clear hb2 HN
        rw [← HE.out]
        generalize hN3 : md f (0 + 1) = N3 at *
        have HM0 := hide hN3
        clear hN3
        have RB := hide (RA.setAll (d64 N3))
        have R1' := hide (R1.setOther (k := w.heap.size + 1 + 1) (by omega) 0 (arr 4 (d64 N3)).toList)
        have R2' := hide (R2.setOther (k := w.heap.size + 1 + 1) (by omega) 0 (arr 4 (d64 N3)).toList)
        have O' := hide (below_setCells (g := w.heap.size + 1 + 1) (by omega) (arr 4 (d64 N3)).toList 0 O)
        clear R1 R2 O
        go_wp2_with (refine wpList_store_mid rfl 51 _ _ rfl (w.heap.size + 1 + 1) 0 (arr 4 (d64 N3)) rfl rfl ?thm0 (info51 _) (arr_one _ _) ?_)
        case thm0 => rw [arr_size]; exact RA.there
        go_roundw
        case rel => exact ⟨0 + 1, by omega, rfl, R1'.out, R2'.out, (by rw [HM0.out]; exact RB.out), O'.out⟩
        case measure => simp [intOf]
      · have c := R1.cell (i := 3) (by omega)
        obtain ⟨b0, b1⟩ := hf 3 (by omega)
        have ea := and32 (hf 3 (by omega))
        have HN := hide (hm 1)
        have HE := hide (show md f (1 + 1) = ((md f 1 * 4294967296 + f 3 / 4294967296) % Lm * 4294967296 + f 3 % 4294967296) % Lm from (md_half (md f 1) (f 3)).symm)
        have HA := hide RA
        have H1 := hide R1
        have HO := hide (And.intro R2 O)
        clear RA R1 R2 O
        generalize f 3 = v at *
        generalize md f 1 = N at *
        go_wp2_with (refine wpList_load_row rfl 51 _ rfl (w.heap.size + 1 + 1) rfl 51 (arr 4 (d64 N)) (0, 0) _ HA.out Try.underlying51 rfl (info51 _) ?_)
        refine (next_any N (v / 4294967296) _ HN.out (by omega) (by omega)).mono ?_
        rintro _ w1 ⟨rfl, hb1⟩
        have RA := HA.out.keep hb1
        have R1 := H1.out.keep hb1
        have R2 := HO.out.1.keep hb1
        have O := HO.out.2.trans (hb1.mono HO.out.2.size)
        clear hb1 HA H1 HO HN
        have HN := hide (lmod (N * 4294967296 + v / 4294967296))
        generalize (N * 4294967296 + v / 4294967296) % Lm = N2 at *
        go_wp2_with fail
        refine (next_any N2 (v % 4294967296) _ HN.out (by omega) (by omega)).mono ?_
        rintro _ w2 ⟨rfl, hb2⟩
        replace RA := RA.keep hb2
        replace R1 := R1.keep hb2
        replace R2 := R2.keep hb2
        replace O := O.trans (hb2.mono O.size)
        clear hb2 HN
        rw [← HE.out]
        generalize hN3 : md f (1 + 1) = N3 at *
        have HM1 := hide hN3
        clear hN3
        have RB := hide (RA.setAll (d64 N3))
        have R1' := hide (R1.setOther (k := w.heap.size + 1 + 1) (by omega) 0 (arr 4 (d64 N3)).toList)
        have R2' := hide (R2.setOther (k := w.heap.size + 1 + 1) (by omega) 0 (arr 4 (d64 N3)).toList)
        have O' := hide (below_setCells (g := w.heap.size + 1 + 1) (by omega) (arr 4 (d64 N3)).toList 0 O)
        clear R1 R2 O
        go_wp2_with (refine wpList_store_mid rfl 51 _ _ rfl (w.heap.size + 1 + 1) 0 (arr 4 (d64 N3)) rfl rfl ?thm1 (info51 _) (arr_one _ _) ?_)
        case thm1 => rw [arr_size]; exact RA.there
        go_roundw
        case rel => exact ⟨1 + 1, by omega, rfl, R1'.out, R2'.out, (by rw [HM1.out]; exact RB.out), O'.out⟩
        case measure => simp [intOf]
      · have c := R1.cell (i := 2) (by omega)
        obtain ⟨b0, b1⟩ := hf 2 (by omega)
        have ea := and32 (hf 2 (by omega))
        have HN := hide (hm 2)
        have HE := hide (show md f (2 + 1) = ((md f 2 * 4294967296 + f 2 / 4294967296) % Lm * 4294967296 + f 2 % 4294967296) % Lm from (md_half (md f 2) (f 2)).symm)
        have HA := hide RA
        have H1 := hide R1
        have HO := hide (And.intro R2 O)
        clear RA R1 R2 O
        generalize f 2 = v at *
        generalize md f 2 = N at *
        go_wp2_with (refine wpList_load_row rfl 51 _ rfl (w.heap.size + 1 + 1) rfl 51 (arr 4 (d64 N)) (0, 0) _ HA.out Try.underlying51 rfl (info51 _) ?_)
        refine (next_any N (v / 4294967296) _ HN.out (by omega) (by omega)).mono ?_
        rintro _ w1 ⟨rfl, hb1⟩
        have RA := HA.out.keep hb1
        have R1 := H1.out.keep hb1
        have R2 := HO.out.1.keep hb1
        have O := HO.out.2.trans (hb1.mono HO.out.2.size)
        clear hb1 HA H1 HO HN
        have HN := hide (lmod (N * 4294967296 + v / 4294967296))
        generalize (N * 4294967296 + v / 4294967296) % Lm = N2 at *
        go_wp2_with fail
        refine (next_any N2 (v % 4294967296) _ HN.out (by omega) (by omega)).mono ?_
        rintro _ w2 ⟨rfl, hb2⟩
        replace RA := RA.keep hb2
        replace R1 := R1.keep hb2
        replace R2 := R2.keep hb2
        replace O := O.trans (hb2.mono O.size)
        clear hb2 HN
        rw [← HE.out]
        generalize hN3 : md f (2 + 1) = N3 at *
        have HM2 := hide hN3
        clear hN3
        have RB := hide (RA.setAll (d64 N3))
        have R1' := hide (R1.setOther (k := w.heap.size + 1 + 1) (by omega) 0 (arr 4 (d64 N3)).toList)
        have R2' := hide (R2.setOther (k := w.heap.size + 1 + 1) (by omega) 0 (arr 4 (d64 N3)).toList)
        have O' := hide (below_setCells (g := w.heap.size + 1 + 1) (by omega) (arr 4 (d64 N3)).toList 0 O)
        clear R1 R2 O
        go_wp2_with (refine wpList_store_mid rfl 51 _ _ rfl (w.heap.size + 1 + 1) 0 (arr 4 (d64 N3)) rfl rfl ?thm2 (info51 _) (arr_one _ _) ?_)
        case thm2 => rw [arr_size]; exact RA.there
        go_roundw
        case rel => exact ⟨2 + 1, by omega, rfl, R1'.out, R2'.out, (by rw [HM2.out]; exact RB.out), O'.out⟩
        case measure => simp [intOf]
      · have c := R1.cell (i := 1) (by omega)
        obtain ⟨b0, b1⟩ := hf 1 (by omega)
        have ea := and32 (hf 1 (by omega))
        have HN := hide (hm 3)
        have HE := hide (show md f (3 + 1) = ((md f 3 * 4294967296 + f 1 / 4294967296) % Lm * 4294967296 + f 1 % 4294967296) % Lm from (md_half (md f 3) (f 1)).symm)
        have HA := hide RA
        have H1 := hide R1
        have HO := hide (And.intro R2 O)
        clear RA R1 R2 O
        generalize f 1 = v at *
        generalize md f 3 = N at *
        go_wp2_with (refine wpList_load_row rfl 51 _ rfl (w.heap.size + 1 + 1) rfl 51 (arr 4 (d64 N)) (0, 0) _ HA.out Try.underlying51 rfl (info51 _) ?_)
        refine (next_any N (v / 4294967296) _ HN.out (by omega) (by omega)).mono ?_
        rintro _ w1 ⟨rfl, hb1⟩
        have RA := HA.out.keep hb1
        have R1 := H1.out.keep hb1
        have R2 := HO.out.1.keep hb1
        have O := HO.out.2.trans (hb1.mono HO.out.2.size)
        clear hb1 HA H1 HO HN
        have HN := hide (lmod (N * 4294967296 + v / 4294967296))
        generalize (N * 4294967296 + v / 4294967296) % Lm = N2 at *
        go_wp2_with fail
        refine (next_any N2 (v % 4294967296) _ HN.out (by omega) (by omega)).mono ?_
        rintro _ w2 ⟨rfl, hb2⟩
        replace RA := RA.keep hb2
        replace R1 := R1.keep hb2
        replace R2 := R2.keep hb2
        replace O := O.trans (hb2.mono O.size)
        clear hb2 HN
        rw [← HE.out]
        generalize hN3 : md f (3 + 1) = N3 at *
        have HM3 := hide hN3
        clear hN3
        have RB := hide (RA.setAll (d64 N3))
        have R1' := hide (R1.setOther (k := w.heap.size + 1 + 1) (by omega) 0 (arr 4 (d64 N3)).toList)
        have R2' := hide (R2.setOther (k := w.heap.size + 1 + 1) (by omega) 0 (arr 4 (d64 N3)).toList)
        have O' := hide (below_setCells (g := w.heap.size + 1 + 1) (by omega) (arr 4 (d64 N3)).toList 0 O)
        clear R1 R2 O
        go_wp2_with (refine wpList_store_mid rfl 51 _ _ rfl (w.heap.size + 1 + 1) 0 (arr 4 (d64 N3)) rfl rfl ?thm3 (info51 _) (arr_one _ _) ?_)
        case thm3 => rw [arr_size]; exact RA.there
        go_roundw
        case rel => exact ⟨3 + 1, by omega, rfl, R1'.out, R2'.out, (by rw [HM3.out]; exact RB.out), O'.out⟩
        case measure => simp [intOf]
      · have c := R1.cell (i := 0) (by omega)
        obtain ⟨b0, b1⟩ := hf 0 (by omega)
        have ea := and32 (hf 0 (by omega))
        have HN := hide (hm 4)
        have HE := hide (show md f (4 + 1) = ((md f 4 * 4294967296 + f 0 / 4294967296) % Lm * 4294967296 + f 0 % 4294967296) % Lm from (md_half (md f 4) (f 0)).symm)
        have HA := hide RA
        have H1 := hide R1
        have HO := hide (And.intro R2 O)
        clear RA R1 R2 O
        generalize f 0 = v at *
        generalize md f 4 = N at *
        go_wp2_with (refine wpList_load_row rfl 51 _ rfl (w.heap.size + 1 + 1) rfl 51 (arr 4 (d64 N)) (0, 0) _ HA.out Try.underlying51 rfl (info51 _) ?_)
        refine (next_any N (v / 4294967296) _ HN.out (by omega) (by omega)).mono ?_
        rintro _ w1 ⟨rfl, hb1⟩
        have RA := HA.out.keep hb1
        have R1 := H1.out.keep hb1
        have R2 := HO.out.1.keep hb1
        have O := HO.out.2.trans (hb1.mono HO.out.2.size)
        clear hb1 HA H1 HO HN
        have HN := hide (lmod (N * 4294967296 + v / 4294967296))
        generalize (N * 4294967296 + v / 4294967296) % Lm = N2 at *
        go_wp2_with fail
        refine (next_any N2 (v % 4294967296) _ HN.out (by omega) (by omega)).mono ?_
        rintro _ w2 ⟨rfl, hb2⟩
        replace RA := RA.keep hb2
        replace R1 := R1.keep hb2
        replace R2 := R2.keep hb2
        replace O := O.trans (hb2.mono O.size)
        clear hb2 HN
        rw [← HE.out]
        generalize hN3 : md f (4 + 1) = N3 at *
        have HM4 := hide hN3
        clear hN3
        have RB := hide (RA.setAll (d64 N3))
        have R1' := hide (R1.setOther (k := w.heap.size + 1 + 1) (by omega) 0 (arr 4 (d64 N3)).toList)
        have R2' := hide (R2.setOther (k := w.heap.size + 1 + 1) (by omega) 0 (arr 4 (d64 N3)).toList)
        have O' := hide (below_setCells (g := w.heap.size + 1 + 1) (by omega) (arr 4 (d64 N3)).toList 0 O)
        clear R1 R2 O
        go_wp2_with (refine wpList_store_mid rfl 51 _ _ rfl (w.heap.size + 1 + 1) 0 (arr 4 (d64 N3)) rfl rfl ?thm4 (info51 _) (arr_one _ _) ?_)
        case thm4 => rw [arr_size]; exact RA.there
        go_roundw
        case rel => exact ⟨4 + 1, by omega, rfl, R1'.out, R2'.out, (by rw [HM4.out]; exact RB.out), O'.out⟩
        case measure => simp [intOf]
    · have hk' : k = 5 := by omega
      subst hk'
      have RR := hide (R2.setAll (d64 (md f 5)))
      have OO := hide (below_setCells (g := w.heap.size + 1) (by omega) (arr 4 (d64 (md f 5))).toList 0 O)
      have HX := hide RA
      clear RA O R1
      generalize hN5 : md f 5 = N at *
      have H5 := hide hN5
      clear hN5
      go_wp2_with (first | (refine wpList_load_row rfl 51 _ rfl (w.heap.size + 1 + 1) rfl 51 (arr 4 (d64 N)) (0, 0) _ HX.out Try.underlying51 rfl (info51 _) ?_) | (refine wpList_store_mid rfl 51 _ _ rfl (w.heap.size + 1) 0 (arr 4 (d64 N)) rfl rfl ?the (info51 _) (arr_one _ _) ?_))
      case the => rw [arr_size]; exact R2.there
      exact bodyPost_ret (v := .agg (arr 4 (d64 N))) (results_cell_row Try.results56 _ _ (w.heap.size + 1) 51 (arr 4 (d64 N)) (0, 0) _ rfl RR.out Try.underlying51 rfl (info51 _)) rfl ⟨by rw [H5.out], OO.out⟩

end Go.Proofs.Ytkeocdebfgcnnaa.Ord

/- The contract of times: the product, in eight words. -/
namespace Go.Proofs.Ytkeocdebfgcnnaa.Ord
open Go.RowKit

theorem Q_upd (o : Nat → Int) (k : Nat) (v : Int) : ∀ n, k < n → Q (upd o k v) n = Q o n + (v - o k) * 18446744073709551616 ^ k
  | 0, h => by omega
  | n + 1, h => by
    simp only [Q]
    by_cases e : k = n
    · subst e
      rw [Q_congr (f := upd o k v) (g := o) (n := k) (fun i hi => by unfold upd; rw [if_neg (by omega)]), show upd o k v k = v by unfold upd; rw [if_pos rfl], Int.sub_mul]
      omega
    · rw [Q_upd o k v n (by omega), show upd o k v n = o n by unfold upd; rw [if_neg (by omega)]]
      omega

/-- i rows are in, and of the next one j words; c is carried. -/
structure TI (f g : Nat → Int) (i j : Nat) (o : Nat → Int) (c : Int) : Prop where
  w : Wds o 8
  cw : W64 c
  z : ∀ k, i + 4 ≤ k → k < 8 → o k = 0
  e : Q o 8 + c * 18446744073709551616 ^ (i + j) = Q f i * Q g 4 + f i * Q g j * 18446744073709551616 ^ i

theorem TI.step {f g : Nat → Int} {i j : Nat} {o : Nat → Int} {c : Int} (h : TI f g i j o c) (hf : Wds f 4) (hg : Wds g 4) (hi : i < 4) (hj : j < 4) :
    TI f g i (j + 1) (upd o (i + j) ((f i * g j + o (i + j) + c) % 18446744073709551616)) ((f i * g j + o (i + j) + c) / 18446744073709551616) := by
  have hfi := hf i hi
  have hgj := hg j hj
  have ho := h.w (i + j) (by omega)
  have hc := h.cw
  unfold W64 at hfi hgj ho hc
  have p0 : 0 ≤ f i * g j := Int.mul_nonneg hfi.1 hgj.1
  have p1 : f i * g j ≤ 18446744073709551615 * 18446744073709551615 := Int.mul_le_mul (by omega) (by omega) hgj.1 (by omega)
  refine ⟨fun k hk => ?_, ⟨by omega, by omega⟩, fun k h1 h2 => ?_, ?_⟩
  · unfold upd
    by_cases e : k = i + j
    · rw [if_pos e]; exact ⟨by omega, by omega⟩
    · rw [if_neg e]; exact h.w k hk
  · unfold upd
    rw [if_neg (by omega)]
    exact h.z k h1 h2
  · rw [Q_upd o (i + j) _ 8 (by omega)]
    have he := h.e
    have hp : (18446744073709551616 : Int) ^ (i + (j + 1)) = 18446744073709551616 * 18446744073709551616 ^ (i + j) := p64s (i + j)
    rw [hp]
    have hq : Q g (j + 1) = Q g j + g j * 18446744073709551616 ^ j := rfl
    rw [hq]
    have hx : (18446744073709551616 : Int) ^ (i + j) = 18446744073709551616 ^ i * 18446744073709551616 ^ j := Int.pow_add _ _ _
    have e1 : f i * (Q g j + g j * 18446744073709551616 ^ j) * 18446744073709551616 ^ i = f i * Q g j * 18446744073709551616 ^ i + f i * g j * 18446744073709551616 ^ (i + j) := by
      rw [hx, Int.mul_add, Int.add_mul]
      congr 1
      rw [← Int.mul_assoc, Int.mul_assoc, Int.mul_comm (18446744073709551616 ^ j)]
    rw [e1]
    generalize f i * g j = P at *
    generalize (18446744073709551616 : Int) ^ (i + j) = X at *
    have e2 : (P + o (i + j) + c) % 18446744073709551616 = P + o (i + j) + c - 18446744073709551616 * ((P + o (i + j) + c) / 18446744073709551616) := by omega
    rw [e2]
    generalize (P + o (i + j) + c) / 18446744073709551616 = D
    have e3 : (P + o (i + j) + c - 18446744073709551616 * D - o (i + j)) * X = P * X + c * X - D * (18446744073709551616 * X) := by
      rw [show P + o (i + j) + c - 18446744073709551616 * D - o (i + j) = P + c - 18446744073709551616 * D by omega, Int.sub_mul, Int.add_mul, Int.mul_comm 18446744073709551616 D, Int.mul_assoc]
    rw [e3]
    omega

theorem TI.row {f g : Nat → Int} {i : Nat} {o : Nat → Int} {c : Int} (h : TI f g i 4 o c) (hi : i < 4) : TI f g (i + 1) 0 (upd o (i + 4) c) 0 := by
  refine ⟨fun k hk => ?_, ⟨by decide, by decide⟩, fun k h1 h2 => ?_, ?_⟩
  · unfold upd
    by_cases e : k = i + 4
    · rw [if_pos e]; exact h.cw
    · rw [if_neg e]; exact h.w k hk
  · unfold upd
    rw [if_neg (by omega)]
    exact h.z k (by omega) h2
  · rw [Q_upd o (i + 4) _ 8 (by omega), h.z (i + 4) (by omega) (by omega)]
    have he := h.e
    have hq : Q f (i + 1) = Q f i + f i * 18446744073709551616 ^ i := rfl
    have h0 : Q g 0 = 0 := rfl
    rw [hq, h0, Int.mul_zero, Int.zero_mul, Int.add_mul, Int.sub_zero, Int.mul_assoc (f i), Int.mul_comm (18446744073709551616 ^ i) (Q g 4), ← Int.mul_assoc]
    omega

theorem TI.start (f g : Nat → Int) : TI f g 0 0 (fun _ => 0) 0 := by
  refine ⟨fun k _ => ⟨Int.le_refl 0, (by decide : (0 : Int) < 18446744073709551616)⟩, ⟨by decide, by decide⟩, fun _ _ _ => rfl, ?_⟩
  have h0 : Q f 0 = 0 := rfl
  have h1 : Q g 0 = 0 := rfl
  have h2 : Q (fun _ => 0) 8 = 0 := by decide
  rw [h0, h1, h2]
  simp

theorem TI.done {f g : Nat → Int} {o : Nat → Int} {c : Int} (h : TI f g 4 0 o c) (hc : c = 0) : arr 8 o = arr 8 (d64 (Q f 4 * Q g 4)) := by
  have he := h.e
  have h1 : Q g 0 = 0 := rfl
  rw [hc, h1, Int.zero_mul, Int.mul_zero, Int.zero_mul, Int.add_zero, Int.add_zero] at he
  have hb := Q_bd h.w
  refine arr_congr (Q_inj h.w (d64_wds _ 8) ?_)
  rw [← he, d64_Q _ hb.1, Int.emod_eq_of_lt hb.1 hb.2]

end Go.Proofs.Ytkeocdebfgcnnaa.Ord

/- The contracts of text, words, Bytes: the 32 bytes of a number, the lowest first. -/
namespace Go.Proofs.Ytkeocdebfgcnnaa.Ord
open Go.RowKit

/-- Bytes as a string. -/
def bs (ns : List Int) : ByteArray := ⟨(ns.map fun n => UInt8.ofNat n.toNat).toArray⟩

theorem bs_fold (ns : List Int) : ∀ s : ByteArray, ns.foldl (fun r n => r.push (UInt8.ofNat n.toNat)) s = ⟨s.data ++ (ns.map fun n => UInt8.ofNat n.toNat).toArray⟩ := by
  induction ns with
  | nil => intro s; simp
  | cons n ns ih =>
    intro s
    rw [List.foldl_cons, ih]
    simp [ByteArray.push]

theorem conv_bytes (W : World) (g : Nat) (T : TypeId) (ns : List Int) (l cap : Nat) (fr : Nat × Nat) (hg : W.heap[g]? = some (.cells (ns.map (Value.int .u8)).toArray T fr)) (hl : ns.length = l) :
    (convert 63 9 (.slice (some ⟨g, 0, none⟩) l cap)).run Try.prog W = .ok (.string (bs ns)) W := by
  subst hl
  rw [run_convert_bytes_string W 63 9 5 (some ⟨g, 0, none⟩) ns.length cap Try.underlying63 Try.underlying5 Try.underlying9]
  have h := run_loadCells_list (P := Try.prog) W ⟨g, 0, none⟩ (ns.map (Value.int .u8)) (fun j v hv => by
    have hadd : (⟨g, 0, none⟩ : Addr).add j = ⟨g, j, none⟩ := by unfold Addr.add; split <;> simp_all
    rw [hadd, cell_of_row W g j _ T fr hg]
    simpa using hv)
  rw [List.length_map] at h
  have he : ByteArray.empty.data = #[] := rfl
  rw [run_bytesToString W _ ns.length cap ns h, bs_fold, he]
  simp [bs]

/-- The eight bytes of a word. -/
def digs (a : Int) : List Int := [a % 256, a / 256 % 256, a / 65536 % 256, a / 16777216 % 256, a / 4294967296 % 256, a / 1099511627776 % 256, a / 281474976710656 % 256, a / 72057594037927936 % 256]

/-- The 32 bytes of a number. -/
def lebytes (n : Int) : ByteArray := bs (digs (n % 18446744073709551616) ++ digs (n / 18446744073709551616 % 18446744073709551616) ++ digs (n / 340282366920938463463374607431768211456 % 18446744073709551616) ++ digs (n / 6277101735386680763835789423207666416102355444464034512896 % 18446744073709551616))

set_option maxRecDepth 100000 in
set_option maxHeartbeats 4000000 in
theorem text_any (a b c d : Int) (w : World) :
    Calls Try.prog 94 #[.agg #[.int .u64 a, .int .u64 b, .int .u64 c, .int .u64 d]] w fun r w' => r = .returned (.string (bs (digs a ++ digs b ++ digs c ++ digs d))) ∧ Below w.heap.size w w' := by
  go_enter Try.func94, Try.ntmps94
  go_wp2
  refine wp_loop_rounds 33 ?_
  iterate 33 (rw [rounds_succ]; go_wp2)
  have hcv : (convert 63 9 (.slice (some ⟨w.heap.size + 1, 0, none⟩) 32 32)).run Try.prog ((w.alloc (.cells #[.int .u64 a, .int .u64 b, .int .u64 c, .int .u64 d] 49)).alloc (.cells #[.int .u8 (a % 256), .int .u8 (a / 256 % 256), .int .u8 (a / 65536 % 256), .int .u8 (a / 16777216 % 256), .int .u8 (a / 4294967296 % 256), .int .u8 (a / 1099511627776 % 256), .int .u8 (a / 281474976710656 % 256), .int .u8 (a / 72057594037927936 % 256), .int .u8 (b % 256), .int .u8 (b / 256 % 256), .int .u8 (b / 65536 % 256), .int .u8 (b / 16777216 % 256), .int .u8 (b / 4294967296 % 256), .int .u8 (b / 1099511627776 % 256), .int .u8 (b / 281474976710656 % 256), .int .u8 (b / 72057594037927936 % 256), .int .u8 (c % 256), .int .u8 (c / 256 % 256), .int .u8 (c / 65536 % 256), .int .u8 (c / 16777216 % 256), .int .u8 (c / 4294967296 % 256), .int .u8 (c / 1099511627776 % 256), .int .u8 (c / 281474976710656 % 256), .int .u8 (c / 72057594037927936 % 256), .int .u8 (d % 256), .int .u8 (d / 256 % 256), .int .u8 (d / 65536 % 256), .int .u8 (d / 16777216 % 256), .int .u8 (d / 4294967296 % 256), .int .u8 (d / 1099511627776 % 256), .int .u8 (d / 281474976710656 % 256), .int .u8 (d / 72057594037927936 % 256)] 73)) = .ok (.string (bs (digs a ++ digs b ++ digs c ++ digs d))) _ := conv_bytes _ (w.heap.size + 1) 73 (digs a ++ digs b ++ digs c ++ digs d) 32 32 (0, 0) (heap_alloc2_new w _ _) rfl
  rw [hcv]
  clear hcv
  generalize hB : bs (digs a ++ digs b ++ digs c ++ digs d) = B
  have HB := hide hB
  clear hB
  go_wp2
  go_ret
  exact ⟨by rw [HB.out]; rfl, ((Below.refl _ _).alloc (Nat.le_refl _) _).alloc (by simp) _⟩

end Go.Proofs.Ytkeocdebfgcnnaa.Ord

/- When two arrays of words are the same. -/
namespace Go.Proofs.Ytkeocdebfgcnnaa.Ord
open Go.RowKit

/-- The words from k on, m of them, are the same. -/
def eqw (f g : Nat → Int) : Nat → Nat → Bool
  | _, 0 => true
  | k, m + 1 => (f k == g k) && eqw f g (k + 1) m

theorem run_eqs_from (d n : Nat) (f g : Nat → Int) (w : World) : ∀ (m k : Nat), k + m ≤ n →
    Sem.run Try.prog (forIn (List.range' k m 1) ((none, ()) : Option Bool × Unit) fun i _ => do
      let a ← part 23 (arr n f) i
      let b ← part 23 (arr n g) i
      let r ← Op.equalIn (d + 1) 23 a b
      if (!r) = true then pure (ForInStep.done (some false, ())) else pure (ForInStep.yield (none, ()))) w = .ok (if eqw f g k m = true then none else some false, ()) w := by
  intro m
  induction m with
  | zero => intro k _; simp [eqw, Sem.run_pure]
  | succ m ih =>
    intro k hk
    have hp : ∀ h : Nat → Int, (part 23 (arr n h) k).run Try.prog w = .ok (.int .u64 (h k)) w := fun h => by
      have ha : (isAgg 23).run Try.prog w = .ok false w := by kernel_rfl
      simp [part, Sem.run_bind, ha, arr_get n h k (by omega)]
    simp only [List.range'_succ, List.forIn_cons, Sem.run_bind, hp, Result.andThen_ok, run_equalIn_int w d 23 .u64 .u64 (f k) (g k) Try.underlying23]
    cases hc : (f k == g k)
    · simp [eqw, hc, Sem.run_pure]
    · simp only [Bool.not_true, Bool.false_eq_true, if_false, Sem.run_pure, Result.andThen_ok, eqw, hc, Bool.true_and]
      exact ih (k + 1) (by omega)

theorem run_equalIn_words (d : Nat) (t : TypeId) (n : Nat) (f g : Nat → Int) (w : World) (ht : Try.prog.underlying t = some (.array n 23)) :
    (Op.equalIn (d + 1 + 1) t (.agg (arr n f)) (.agg (arr n g))).run Try.prog w = .ok (eqw f g 0 n) w := by
  have hz : (sizeOf 23).run Try.prog w = .ok 1 w := by kernel_rfl
  rw [Op.equalIn]
  simp only [Sem.run_bind, run_underlying ht, Result.andThen_ok, hz, Nat.mul_one]
  rw [Std.Legacy.Range.forIn_eq_forIn_range']
  have e : ([:n] : Std.Legacy.Range).size = n := by simp [Std.Legacy.Range.size]
  rw [e]
  have h := run_eqs_from d n f g w n 0 (by omega)
  rw [h]
  cases hc : eqw f g 0 n <;> simp [Sem.run_pure]

theorem run_eql_words (t : TypeId) (n : Nat) (f g : Nat → Int) (w : World) (ht : Try.prog.underlying t = some (.array n 23)) :
    (binOp .eql t (.agg (arr n f)) (.agg (arr n g))).run Try.prog w = .ok (.bool (eqw f g 0 n)) w := by
  rw [run_eql_struct, run_equalIn_words 9998 t n f g w ht]
  rfl

theorem eqw_iff (f g : Nat → Int) : ∀ (m k : Nat), eqw f g k m = true ↔ ∀ i, k ≤ i → i < k + m → f i = g i := by
  intro m
  induction m with
  | zero => intro k; simp only [eqw]; exact ⟨fun _ i h1 h2 => by omega, fun _ => trivial⟩
  | succ m ih =>
    intro k
    simp only [eqw, Bool.and_eq_true, beq_iff_eq, ih (k + 1)]
    constructor
    · intro h i h1 h2
      by_cases e : i = k
      · rw [e]; exact h.1
      · exact h.2 i (by omega) (by omega)
    · intro h
      exact ⟨h k (by omega) (by omega), fun i h1 h2 => h i (by omega) (by omega)⟩

end Go.Proofs.Ytkeocdebfgcnnaa.Ord

/- The contracts of the scalars' Mul, Same and Bytes. -/
namespace Go.Proofs.Ytkeocdebfgcnnaa.Ord
open Go.RowKit

theorem leb_d64 (N : Int) : lebytes N = bs (digs (d64 N 0) ++ digs (d64 N 1) ++ digs (d64 N 2) ++ digs (d64 N 3)) := by
  have e0 : d64 N 0 = N % 18446744073709551616 := by simp [d64]
  have e1 : d64 N 1 = N / 18446744073709551616 % 18446744073709551616 := by simp [d64]
  have e2 : d64 N 2 = N / 340282366920938463463374607431768211456 % 18446744073709551616 := by simp [d64]
  have e3 : d64 N 3 = N / 6277101735386680763835789423207666416102355444464034512896 % 18446744073709551616 := by simp [d64]
  rw [e0, e1, e2, e3]
  rfl

set_option maxRecDepth 100000 in
set_option maxHeartbeats 1000000 in
theorem bytes_any (N : Int) (w : World) :
    Calls Try.prog 59 #[.agg (arr 4 (d64 N))] w fun x w' => x = .returned (.string (lebytes N)) ∧ Below w.heap.size w w' := by
  have C1 : Hid (∀ w, Calls Try.prog 94 #[.agg (arr 4 (d64 N))] w fun x w' => x = .returned (.string (lebytes N)) ∧ Below w.heap.size w w') := hide fun w => by
    rw [leb_d64]
    exact text_any (d64 N 0) (d64 N 1) (d64 N 2) (d64 N 3) w
  have HR := hide (And.intro (Row.new w 51 4 (d64 N)) (new_below w (.cells (arr 4 (d64 N)) 51)))
  generalize lebytes N = B at *
  go_enter Try.func59, Try.ntmps59
  go_wp2_with (refine wpList_load_row rfl 49 _ rfl w.heap.size rfl 51 (arr 4 (d64 N)) (0, 0) _ HR.out.1 Try.underlying49 rfl (info49 _) ?_)
  refine (C1.out _).mono ?_
  rintro _ w1 ⟨rfl, hb1⟩
  have O := HR.out.2.trans (hb1.mono HR.out.2.size)
  clear hb1 HR
  go_wp2
  go_ret
  exact ⟨rfl, O⟩

end Go.Proofs.Ytkeocdebfgcnnaa.Ord

/- Numbers of 16 digits of 16 bits, as the document's answer has them: wide, Less, minus. -/
namespace Go.Proofs.Ytkeocdebfgcnnaa.Ord
open Go.RowKit

/-- The number of the first n digits. -/
def S (f : Nat → Int) : Nat → Int
  | 0 => 0
  | n + 1 => S f n + f n * 65536 ^ n

theorem p16 (n : Nat) : (0 : Int) < 65536 ^ n := Int.pow_pos (by decide)
theorem p16s (n : Nat) : (65536 : Int) ^ (n + 1) = 65536 * 65536 ^ n := by rw [Int.pow_succ, Int.mul_comm]

/-- Each of the first n digits is one. -/
def Dig (f : Nat → Int) (n : Nat) : Prop := ∀ i, i < n → 0 ≤ f i ∧ f i < 65536

theorem Dig.le {f : Nat → Int} {n m : Nat} (h : Dig f n) (hm : m ≤ n) : Dig f m := fun i hi => h i (by omega)

theorem S_bd {f : Nat → Int} : ∀ {n : Nat}, Dig f n → 0 ≤ S f n ∧ S f n < 65536 ^ n
  | 0, _ => by simp [S]
  | n + 1, h => by
    have ih := S_bd (n := n) (h.le (by omega))
    have hd := h n (by omega)
    have hp := p16 n
    have h1 : f n * 65536 ^ n ≤ 65535 * 65536 ^ n := Int.mul_le_mul_of_nonneg_right (by omega) (by omega)
    have h2 : 0 ≤ f n * 65536 ^ n := Int.mul_nonneg hd.1 (by omega)
    rw [p16s]
    simp only [S]
    omega

theorem S_congr {f g : Nat → Int} : ∀ {n : Nat}, (∀ i, i < n → f i = g i) → S f n = S g n
  | 0, _ => rfl
  | n + 1, h => by
    simp only [S]
    rw [S_congr (n := n) fun i hi => h i (by omega), h n (by omega)]

theorem S_above {f g : Nat → Int} {p : Nat} : ∀ {n : Nat}, p ≤ n → (∀ j, p ≤ j → j < n → f j = g j) → S f n - S g n = S f p - S g p := by
  intro n
  induction n with
  | zero => intro h _; have : p = 0 := by omega
            subst this; rfl
  | succ n ih =>
    intro h he
    by_cases hp : p = n + 1
    · subst hp; rfl
    · have h1 := ih (by omega) fun j a b => he j a (by omega)
      simp only [S]
      rw [he n (by omega) (by omega)]
      omega

theorem S_lt {f g : Nat → Int} {p : Nat} (hf : Dig f 16) (hg : Dig g 16) (hp : p < 16) (he : ∀ j, p + 1 ≤ j → j < 16 → f j = g j) (hne : f p ≠ g p) : decide (f p < g p) = decide (S f 16 < S g 16) := by
  have h1 := S_above (n := 16) (by omega) he
  have h2 := S_bd (hf.le (m := p) (by omega))
  have h3 := S_bd (hg.le (m := p) (by omega))
  have hx := p16 p
  simp only [S] at h1
  generalize S f p = sf at *
  generalize S g p = sg at *
  generalize (65536 : Int) ^ p = X at *
  have hS : (S f 16 < S g 16) ↔ f p < g p := by
    constructor
    · intro h
      apply Int.lt_of_not_ge
      intro hge
      have : f p ≥ g p + 1 := by omega
      have : (f p - g p) * X ≥ 1 * X := Int.mul_le_mul_of_nonneg_right (by omega) (by omega)
      rw [Int.sub_mul] at this
      have e16 : S f 16 - S g 16 < 0 := by omega
      simp only [S] at e16
      omega
    · intro h
      have : (g p - f p) * X ≥ 1 * X := Int.mul_le_mul_of_nonneg_right (by omega) (by omega)
      rw [Int.sub_mul] at this
      have e16 : ∀ d, S f 16 - S g 16 = d → d < 0 → S f 16 < S g 16 := fun d a b => by omega
      simp only [S] at e16 ⊢
      omega
  exact decide_eq_decide.2 hS.symm

def wid (f : Nat → Int) (k : Nat) : Nat → Int := fun i => if i < k then f i else 0

theorem rowN {w : World} {g : Nat} {T : TypeId} {n : Nat} {f : Nat → Int} (h : Row w g T n f) (k : Nat) : Row (w.drewN k) g T n f := h
theorem belN {B : Nat} {a w : World} {n : Nat} (h : Below B a w) : Below B a (w.drewN n) := ⟨h.os, h.tape, h.output, h.size, h.block⟩

set_option maxRecDepth 100000 in
set_option maxHeartbeats 1000000 in
theorem less_any (f g : Nat → Int) (w : World) (hf : Dig f 16) (hg : Dig g 16) : Calls Try.prog 69 #[.agg (arr 16 f), .agg (arr 16 g)] w fun r w' => r = .returned (.bool (decide (S f 16 < S g 16))) ∧ Below w.heap.size w w' := by
  go_enter Try.func69, Try.ntmps69
  go_wp2
  have R1 : Row ((w.alloc (.cells (arr 16 f) 33)).alloc (.cells (arr 16 g) 33)) w.heap.size 33 16 f := (Row.new w 33 16 f).alloc _
  have R2 : Row ((w.alloc (.cells (arr 16 f) 33)).alloc (.cells (arr 16 g) 33)) (w.heap.size + 1) 33 16 g := Row.new' _ 33 16 _ (by simp)
  have O : Below w.heap.size w ((w.alloc (.cells (arr 16 f) 33)).alloc (.cells (arr 16 g) 33)) := ((Below.refl _ _).alloc (Nat.le_refl _) _).alloc (by simp) _
  generalize (w.alloc (.cells (arr 16 f) 33)).alloc (.cells (arr 16 g) 33) = W at R1 R2 O ⊢
  go_loopw [5] (fun i wr => ∃ m : Nat, m ≤ 16 ∧ (∃ v : Int, v = (m : Int) - 1 ∧ i = .int .i64 v) ∧ (∀ j, m ≤ j → j < 16 → f j = g j) ∧ Row wr w.heap.size 33 16 f ∧ Row wr (w.heap.size + 1) 33 16 g ∧ Below w.heap.size w wr) (fun i _ => (intOf i + 1).toNat)
  case atStart => exact ⟨16, by omega, ⟨15, by omega, rfl⟩, fun j a b => by omega, R1, R2, O⟩
  case round =>
    clear R1 R2 O
    obtain ⟨m, hm, ⟨v, hv, hi⟩, hall, R1, R2, O⟩ := hrel
    rcases m with _ | p
    · have e : v = -1 := by omega
      rw [e] at hi
      clear hv e
      subst hi
      have HS := hide (S_congr (n := 16) fun i hi => hall i (by omega) hi)
      clear hall
      go_wp2
      go_ret
      refine ⟨?_, O⟩
      rw [HS.out]
      simp
    · have e : v = (p : Int) := by omega
      rw [e] at hi
      clear hv e
      subst hi
      have c := R1.cell (i := p) (by omega)
      have d := R2.cell (i := p) (by omega)
      have i1 : (0 : Int) ≤ (p : Int) := by omega
      have i2 : (p : Int) < 16 := by omega
      have HA := hide hall
      clear hall
      by_cases hfg : f p = g p
      · have hb : (f p != g p) = false := by simp [hfg]
        have HF := hide hfg
        clear hfg
        go_wp2_with fail
        go_quiet (fail)
        go_wp2
        go_roundw
        case rel => exact ⟨p, by omega, ⟨_, by omega, rfl⟩, fun j a b => by
          by_cases hj : j = p
          · rw [hj]; exact HF.out
          · exact HA.out j (by omega) b, rowN R1 _, rowN R2 _, belN O⟩
        case measure => simp [intOf]
      · have hb : (f p != g p) = true := by simp [hfg]
        have HL := hide (S_lt hf hg (p := p) (by omega) HA.out hfg)
        clear hfg
        go_wp2_with fail
        go_quiet (fail)
        go_wp2_with fail
        go_quiet (fail)
        go_wp2
        go_ret
        exact ⟨by rw [← HL.out]; rfl, belN (belN O)⟩

end Go.Proofs.Ytkeocdebfgcnnaa.Ord

/- The document's prime and its minus. -/
namespace Go.Proofs.Ytkeocdebfgcnnaa.Ord
open Go.RowKit

/-- What is borrowed ahead of digit k. -/
def bor (a b : Nat → Int) : Nat → Int
  | 0 => 0
  | k + 1 => 1 - (65536 + a k - b k - bor a b k) / 65536
def minusF (a b : Nat → Int) : Nat → Int := fun i => (65536 + a i - b i - bor a b i) % 65536
def mk (a b : Nat → Int) (k : Nat) : Nat → Int := fun i => if i < k then minusF a b i else 0

theorem bor_bd {a b : Nat → Int} (ha : Dig a 16) (hb : Dig b 16) : ∀ k, k ≤ 16 → 0 ≤ bor a b k ∧ bor a b k ≤ 1
  | 0, _ => by simp [bor]
  | k + 1, h => by
    have ih := bor_bd ha hb k (by omega)
    have h1 := ha k (by omega)
    have h2 := hb k (by omega)
    simp only [bor]
    omega

theorem minusF_dig (a b : Nat → Int) (n : Nat) : Dig (minusF a b) n := fun i _ => by unfold minusF; omega

theorem minus_S (a b : Nat → Int) : ∀ k, S (minusF a b) k = S a k - S b k + bor a b k * 65536 ^ k
  | 0 => by simp [S, bor]
  | k + 1 => by
    have ih := minus_S a b k
    have e : bor a b (k + 1) * 65536 ^ (k + 1) = 65536 * bor a b (k + 1) * 65536 ^ k := by rw [p16s, ← Int.mul_assoc, Int.mul_comm (bor a b (k + 1)) 65536]
    have e2 : minusF a b k = a k - b k - bor a b k + 65536 * bor a b (k + 1) := by
      simp only [minusF, bor]
      omega
    simp only [S]
    rw [ih, e, e2, Int.add_mul, Int.sub_mul, Int.sub_mul]
    omega

theorem minus_le {a b : Nat → Int} (ha : Dig a 16) (hb : Dig b 16) (h : S b 16 ≤ S a 16) : S (minusF a b) 16 = S a 16 - S b 16 := by
  have e := minus_S a b 16
  have h0 := bor_bd ha hb 16 (by omega)
  have h1 := S_bd (minusF_dig a b 16)
  have h2 := S_bd ha
  have h3 := S_bd hb
  have : bor a b 16 = 0 ∨ bor a b 16 = 1 := by omega
  rcases this with h4 | h4
  · rw [h4] at e; omega
  · rw [h4] at e; omega

theorem and16 {x : Int} (h0 : 0 ≤ x) (h1 : x < 18446744073709551616) : bits .and .u64 x 65535 = x % 65536 := by
  rw [u64_and x _ h0 h1 (by decide) (by decide)]
  have e : (65535 : Int).toNat = 65535 := by decide
  rw [e, nat_mask16]
  omega

end Go.Proofs.Ytkeocdebfgcnnaa.Ord

/- The arithmetic of the document's reduce: carries, and what stands at 2^256 or above comes round by 38. -/
namespace Go.Proofs.Ytkeocdebfgcnnaa.Ord
open Go.RowKit

/-- The carry into place k. -/
def cf (t : Nat → Int) : Nat → Int
  | 0 => 0
  | k + 1 => (t k + cf t k) / 65536
def lo (t : Nat → Int) : Nat → Int := fun i => (t i + cf t i) % 65536

theorem lo_dig (t : Nat → Int) (n : Nat) : Dig (lo t) n := fun i _ => by unfold lo; omega

theorem pass_S (t : Nat → Int) : ∀ k, S (lo t) k + cf t k * 65536 ^ k = S t k
  | 0 => by simp [S, cf]
  | k + 1 => by
    have ih := pass_S t k
    have e : cf t (k + 1) * 65536 ^ (k + 1) = 65536 * cf t (k + 1) * 65536 ^ k := by rw [p16s, ← Int.mul_assoc, Int.mul_comm (cf t (k + 1)) 65536]
    have e2 : lo t k = t k + cf t k - 65536 * cf t (k + 1) := by
      simp only [lo, cf]
      omega
    simp only [S]
    rw [e, e2, Int.sub_mul, Int.add_mul]
    omega

theorem S_shift (f : Nat → Int) (n : Nat) : ∀ m, S f (n + m) = S f n + 65536 ^ n * S (fun i => f (n + i)) m
  | 0 => by simp [S]
  | m + 1 => by
    have ih := S_shift f n m
    rw [← Nat.add_assoc]
    simp only [S]
    rw [ih, Int.mul_add, Int.pow_add, Int.mul_left_comm, Int.add_assoc]

theorem S_zero (n : Nat) : S (fun _ => 0) n = 0 := by
  induction n with
  | zero => rfl
  | succ n ih => simp only [S, ih]; simp

/-- What is above place 16 comes round by 38. -/
def foldF (u : Nat → Int) : Nat → Int := fun i => if i < 16 then u i + 38 * u (16 + i) else 0
theorem fold_S (u : Nat → Int) : ∀ n, n ≤ 16 → S (foldF u) n = S u n + 38 * S (fun i => u (16 + i)) n
  | 0, _ => by simp [S]
  | n + 1, h => by
    have ih := fold_S u n (by omega)
    simp only [S]
    rw [ih, foldF, if_pos (by omega), Int.add_mul, Int.mul_add, Int.mul_assoc]
    omega

theorem S_upper_zero (f : Nat → Int) (h : ∀ i, 16 ≤ i → i < 32 → f i = 0) : S f 32 = S f 16 := by
  have e := S_shift f 16 16
  rw [show 16 + 16 = 32 from rfl] at e
  rw [e, S_congr (f := fun i => f (16 + i)) (g := fun _ => 0) fun i hi => h (16 + i) (by omega) (by omega), S_zero]
  simp

/-- One round of the first loop. -/
def T1 (t : Nat → Int) : Nat → Int := upd (foldF (lo t)) 0 (foldF (lo t) 0 + 1444 * cf t 32)

theorem S_upd0 (f : Nat → Int) (v : Int) : ∀ n, S (upd f 0 v) (n + 1) = S f (n + 1) - f 0 + v
  | 0 => by simp [S, upd]
  | n + 1 => by
    have ih := S_upd0 f v n
    show S (upd f 0 v) (n + 1) + upd f 0 v (n + 1) * 65536 ^ (n + 1) = S f (n + 1) + f (n + 1) * 65536 ^ (n + 1) - f 0 + v
    rw [ih]
    simp only [upd]
    rw [if_neg (by omega)]
    omega

theorem T1_up (t : Nat → Int) (i : Nat) (h : 16 ≤ i) : T1 t i = 0 := by
  unfold T1 upd foldF
  rw [if_neg (by omega), if_neg (by omega)]

theorem T1_S (t : Nat → Int) : Cg (S (T1 t) 32) (S t 32) := by
  rw [S_upper_zero (T1 t) fun i h _ => T1_up t i h]
  have e1 : S (T1 t) 16 = S (foldF (lo t)) 16 + 1444 * cf t 32 := by
    have h := S_upd0 (foldF (lo t)) (foldF (lo t) 0 + 1444 * cf t 32) 15
    rw [show 15 + 1 = 16 from rfl] at h
    unfold T1
    rw [h]
    omega
  have e2 := fold_S (lo t) 16 (by omega)
  have e3 := pass_S t 32
  have e4 := S_shift (lo t) 16 16
  rw [show 16 + 16 = 32 from rfl] at e4
  have p1 : (65536 : Int) ^ 16 = 2 * Pm + 38 := by decide
  have p2 : (65536 : Int) ^ 32 = (2 * Pm + 76) * (2 * Pm) + 1444 := by decide
  rw [e4, p2, p1] at e3
  rw [e1, e2]
  generalize S (fun i => lo t (16 + i)) 16 = h at *
  generalize S (lo t) 16 = l at *
  generalize cf t 32 = c at *
  refine ⟨- (2 * h) - c * ((2 * Pm + 76) * 2), ?_⟩
  rw [← e3]
  simp only [Int.mul_add, Int.add_mul, Int.sub_mul, Int.neg_mul, Int.mul_assoc, Int.mul_comm Pm]
  omega

structure B48 (t : Nat → Int) : Prop where
  b : ∀ i, i < 32 → 0 ≤ t i ∧ t i < 281474976710656

theorem cf_bd {t : Nat → Int} (h : B48 t) : ∀ k, k ≤ 32 → 0 ≤ cf t k ∧ cf t k ≤ 8589934592
  | 0, _ => by simp [cf]
  | k + 1, hk => by
    have ih := cf_bd h k (by omega)
    have := h.b k (by omega)
    simp only [cf]
    omega

/-- How great the digits are behind so many rounds. -/
def Jl : Nat → (Nat → Int) → Prop
  | 0, t => B48 t
  | 1, t => (∀ i, 16 ≤ i → i < 32 → t i = 0) ∧ (0 ≤ t 0 ∧ t 0 ≤ 17592186044416) ∧ ∀ i, 1 ≤ i → i < 16 → 0 ≤ t i ∧ t i ≤ 2555865
  | 2, t => (∀ i, 16 ≤ i → i < 32 → t i = 0) ∧ (0 ≤ t 0 ∧ t 0 ≤ 67100) ∧ ∀ i, 1 ≤ i → i < 16 → 0 ≤ t i ∧ t i ≤ 65535
  | _, t => (∀ i, 16 ≤ i → i < 32 → t i = 0) ∧ Dig t 16

theorem Jl.b48 {k : Nat} {t : Nat → Int} (hk : k ≤ 3) (h : Jl k t) : B48 t := by
  have hc : k = 0 ∨ k = 1 ∨ k = 2 ∨ k = 3 := by omega
  rcases hc with rfl | rfl | rfl | rfl
  · exact h
  all_goals
    refine ⟨fun i hi => ?_⟩
    by_cases h16 : 16 ≤ i
    · rw [h.1 i h16 hi]; omega
    · first
      | (have := h.2 i (by omega); omega)
      | (by_cases h0 : i = 0
         · have := h.2.1; rw [h0]; omega
         · have := h.2.2 i (by omega) (by omega); omega)

/-- Where the upper digits are none, and few carries go up. -/
theorem T1_low {t : Nat → Int} (hz : ∀ i, 16 ≤ i → i < 32 → t i = 0) (hc : 0 ≤ cf t 16 ∧ cf t 16 ≤ 65535) : T1 t 0 = lo t 0 + 38 * cf t 16 ∧ ∀ i, 1 ≤ i → i < 16 → T1 t i = lo t i := by
  have h17 : ∀ j, cf t (17 + j) = 0 ∨ 15 ≤ j := by
    intro j
    induction j with
    | zero => left; show (t 16 + cf t 16) / 65536 = 0; rw [hz 16 (by omega) (by omega)]; omega
    | succ j ih =>
      by_cases hj : 15 ≤ j + 1
      · exact .inr hj
      · left
        rcases ih with ih | ih
        · show (t (17 + j) + cf t (17 + j)) / 65536 = 0
          rw [ih, hz (17 + j) (by omega) (by omega)]
          decide
        · omega
  have h32 : cf t 32 = 0 := by
    have a : cf t 31 = 0 := by rcases h17 14 with h | h; · exact h
                               · omega
    show (t 31 + cf t 31) / 65536 = 0
    rw [a, hz 31 (by omega) (by omega)]
    decide
  have hl : ∀ i, 1 ≤ i → i < 16 → lo t (16 + i) = 0 := by
    intro i h1 h2
    have a : cf t (16 + i) = 0 := by
      have := h17 (i - 1)
      rw [show 17 + (i - 1) = 16 + i by omega] at this
      rcases this with h | h
      · exact h
      · have : i = 16 := by omega
        omega
    unfold lo
    rw [a, hz (16 + i) (by omega) (by omega)]
    decide
  have h16 : lo t 16 = cf t 16 := by
    unfold lo
    rw [hz 16 (by omega) (by omega)]
    omega
  refine ⟨?_, fun i h1 h2 => ?_⟩
  · unfold T1 upd
    rw [if_pos rfl, h32]
    unfold foldF
    rw [if_pos (by omega), Nat.add_zero, h16]
    omega
  · unfold T1 upd
    rw [if_neg (by omega)]
    unfold foldF
    rw [if_pos h2, hl i h1 h2]
    omega

theorem Jl.next {k : Nat} {t : Nat → Int} (hk : k < 3) (h : Jl k t) : Jl (k + 1) (T1 t) := by
  have hB := h.b48 (by omega)
  have hc : k = 0 ∨ k = 1 ∨ k = 2 := by omega
  rcases hc with rfl | rfl | rfl
  · have hcf := cf_bd hB 32 (by omega)
    have hlo := lo_dig t 32
    refine ⟨fun i a _ => T1_up t i a, ?_, fun i h1 h2 => ?_⟩
    · unfold T1 upd foldF
      have := hlo 0 (by omega)
      have := hlo 16 (by omega)
      simp
      omega
    · unfold T1 upd foldF
      have := hlo i (by omega)
      have := hlo (16 + i) (by omega)
      rw [if_neg (by omega), if_pos h2]
      omega
  · obtain ⟨hz, h0, hi⟩ := h
    have c0 : cf t 0 = 0 := rfl
    have c1 : 0 ≤ cf t 1 ∧ cf t 1 ≤ 268435456 := by show 0 ≤ (t 0 + cf t 0) / 65536 ∧ (t 0 + cf t 0) / 65536 ≤ 268435456; rw [c0]; omega
    have c2 : 0 ≤ cf t 2 ∧ cf t 2 ≤ 5000 := by
      have := hi 1 (by omega) (by omega)
      show 0 ≤ (t 1 + cf t 1) / 65536 ∧ (t 1 + cf t 1) / 65536 ≤ 5000
      omega
    have c3 : ∀ j, 3 + j ≤ 16 → 0 ≤ cf t (3 + j) ∧ cf t (3 + j) ≤ 39 := by
      intro j
      induction j with
      | zero =>
        intro _
        have := hi 2 (by omega) (by omega)
        show 0 ≤ (t 2 + cf t 2) / 65536 ∧ (t 2 + cf t 2) / 65536 ≤ 39
        omega
      | succ j ih =>
        intro hj
        have ih := ih (by omega)
        have := hi (3 + j) (by omega) (by omega)
        show 0 ≤ (t (3 + j) + cf t (3 + j)) / 65536 ∧ (t (3 + j) + cf t (3 + j)) / 65536 ≤ 39
        omega
    have h16 := c3 13 (by omega)
    rw [show 3 + 13 = 16 from rfl] at h16
    have hT := T1_low hz (by omega)
    have hlo := lo_dig t 32
    refine ⟨fun i a _ => T1_up t i a, ?_, fun i h1 h2 => ?_⟩
    · rw [hT.1]
      have := hlo 0 (by omega)
      omega
    · rw [hT.2 i h1 h2]
      have := hlo i (by omega)
      omega
  · obtain ⟨hz, h0, hi⟩ := h
    have c0 : cf t 0 = 0 := rfl
    have c1 : 0 ≤ cf t 1 ∧ cf t 1 ≤ 1 := by show 0 ≤ (t 0 + cf t 0) / 65536 ∧ (t 0 + cf t 0) / 65536 ≤ 1; rw [c0]; omega
    have c3 : ∀ j, 1 + j ≤ 16 → 0 ≤ cf t (1 + j) ∧ cf t (1 + j) ≤ cf t 1 := by
      intro j
      induction j with
      | zero => intro _; show 0 ≤ cf t 1 ∧ cf t 1 ≤ cf t 1; omega
      | succ j ih =>
        intro hj
        have ih := ih (by omega)
        have := hi (1 + j) (by omega) (by omega)
        show 0 ≤ (t (1 + j) + cf t (1 + j)) / 65536 ∧ (t (1 + j) + cf t (1 + j)) / 65536 ≤ cf t 1
        omega
    have h16 := c3 15 (by omega)
    rw [show 1 + 15 = 16 from rfl] at h16
    have hT := T1_low hz (by omega)
    have hlo := lo_dig t 32
    have e1 : cf t 1 = (t 0 + cf t 0) / 65536 := rfl
    have el : lo t 0 = (t 0 + cf t 0) % 65536 := rfl
    rw [c0] at e1 el
    refine ⟨fun i a _ => T1_up t i a, fun i h2 => ?_⟩
    by_cases hi0 : i = 0
    · rw [hi0, hT.1]
      omega
    · rw [hT.2 i (by omega) h2]
      exact hlo i (by omega)

/-- The digits of a number. -/
def d16 (N : Int) : Nat → Int := fun i => N / 65536 ^ i % 65536

theorem S_inj {f g : Nat → Int} : ∀ {n : Nat}, Dig f n → Dig g n → S f n = S g n → ∀ i, i < n → f i = g i
  | 0, _, _, _, i, hi => by omega
  | n + 1, hf, hg, h, i, hi => by
    have bf := S_bd (hf.le (m := n) (by omega))
    have bg := S_bd (hg.le (m := n) (by omega))
    have hp := p16 n
    simp only [S] at h
    have hn : f n = g n := by
      apply Classical.byContradiction
      intro hne
      have : f n < g n ∨ g n < f n := by omega
      rcases this with hl | hl
      · have : (g n - f n) * 65536 ^ n ≥ 1 * 65536 ^ n := Int.mul_le_mul_of_nonneg_right (by omega) (by omega)
        rw [Int.sub_mul] at this
        omega
      · have : (f n - g n) * 65536 ^ n ≥ 1 * 65536 ^ n := Int.mul_le_mul_of_nonneg_right (by omega) (by omega)
        rw [Int.sub_mul] at this
        omega
    by_cases hin : i = n
    · rw [hin]; exact hn
    · refine S_inj (n := n) (hf.le (by omega)) (hg.le (by omega)) ?_ i (by omega)
      rw [hn] at h
      omega

theorem d16_dig (N : Int) (n : Nat) : Dig (d16 N) n := fun i _ => by unfold d16; omega

theorem d16_S (N : Int) (h0 : 0 ≤ N) : ∀ n, S (d16 N) n = N % 65536 ^ n
  | 0 => by simp [S]
  | n + 1 => by
    simp only [S]
    rw [d16_S N h0 n, d16, Int.pow_succ]
    have hp := p16 n
    generalize (65536 : Int) ^ n = X at *
    have a := Int.mul_ediv_add_emod N X
    have b := Int.mul_ediv_add_emod (N / X) 65536
    have r0 := Int.emod_nonneg N (by omega : X ≠ 0)
    have r1 := Int.emod_lt_of_pos N hp
    have hN : N = (N % X + N / X % 65536 * X) + X * 65536 * (N / X / 65536) := by
      have e : X * (N / X) = X * (65536 * (N / X / 65536) + N / X % 65536) := by rw [b]
      rw [Int.mul_add] at e
      rw [Int.mul_comm (N / X % 65536) X, Int.mul_assoc]
      omega
    have q : N / X % 65536 * X ≤ 65535 * X := Int.mul_le_mul_of_nonneg_right (by omega) (by omega)
    have q0 : 0 ≤ N / X % 65536 * X := Int.mul_nonneg (by omega) (by omega)
    have hM : N % (X * 65536) = (N % X + N / X % 65536 * X + X * 65536 * (N / X / 65536)) % (X * 65536) := by rw [← hN]
    rw [hM, Int.add_mul_emod_self_left]
    exact (Int.emod_eq_of_lt (by omega) (by omega)).symm

end Go.Proofs.Ytkeocdebfgcnnaa.Ord

/- The contracts of the document's Bytes and Small. -/
namespace Go.Proofs.Ytkeocdebfgcnnaa.Ord
open Go.RowKit

/-- Byte i of the digits. -/
def by16 (f : Nat → Int) (i : Nat) : Int := f (i / 2) / 256 ^ (i % 2) % 256
/-- The first k bytes, then none. -/
def rb (f : Nat → Int) (k : Nat) : List Int := (List.range 32).map fun i => if i < k then by16 f i else 0

/-- Block g holds these bytes. -/
def Byt (W : World) (g : Nat) (l : List Int) : Prop := W.heap[g]? = some (.cells (l.map (Value.int .u8)).toArray 5 (0, 0))

theorem Byt.cell {W : World} {g : Nat} {l : List Int} (h : Byt W g l) {i : Nat} (hi : i < l.length) : ∃ v, W.cell? ⟨g, i, none⟩ = some v := by
  rw [cell_of_row W g i _ 5 (0, 0) h]
  simp [hi]
theorem Byt.free {W : World} {g : Nat} {l : List Int} (h : Byt W g l) (i : Nat) : W.frozen? ⟨g, i, none⟩ = false := frozen_of_row W g i _ 5 h
theorem Byt.set {W : World} {g : Nat} {l : List Int} (h : Byt W g l) (k : Nat) (v : Int) : Byt (W.setCell ⟨g, k, none⟩ (.int .u8 v)) g (l.set k v) := by
  unfold Byt
  rw [heap_setCell_same W g k _ 5 _ h]
  simp [List.map_set]

theorem rb_len (f : Nat → Int) (k : Nat) : (rb f k).length = 32 := by simp [rb]
theorem rb_set (f : Nat → Int) (k : Nat) : (rb f k).set k (by16 f k) = rb f (k + 1) := by
  apply List.ext_getElem?
  intro i
  by_cases hi : i < 32
  · by_cases h : k = i
    · subst h
      rw [List.getElem?_set_self (by rw [rb_len]; exact hi)]
      simp [rb, hi]
    · rw [List.getElem?_set_ne h]
      simp only [rb, List.getElem?_map, List.getElem?_range hi, Option.map_some]
      congr 1
      by_cases h2 : i < k
      · rw [if_pos h2, if_pos (by omega)]
      · rw [if_neg h2, if_neg (by omega)]
  · rw [List.getElem?_eq_none (by simp [rb]; omega), List.getElem?_eq_none (by simp [rb]; omega)]

set_option maxRecDepth 100000 in
set_option maxHeartbeats 8000000 in
theorem rbytes_any (f : Nat → Int) (w : World) (hf : Dig f 16) :
    Calls Try.prog 61 #[.agg (arr 16 f)] w fun r w' => r = .returned (.string (bs (rb f 32))) ∧ Below w.heap.size w w' := by
  have hmk : ∀ w, (Instr.makeSlice 63 (.int .i64 32) (.int .i64 32)).run Try.prog w = .ok (.slice (some ⟨w.heap.size, 0, none⟩) 32 32) (w.alloc (.cells #[Value.int IntKind.u8 0, Value.int IntKind.u8 0, Value.int IntKind.u8 0, Value.int IntKind.u8 0, Value.int IntKind.u8 0, Value.int IntKind.u8 0, Value.int IntKind.u8 0, Value.int IntKind.u8 0, Value.int IntKind.u8 0, Value.int IntKind.u8 0, Value.int IntKind.u8 0, Value.int IntKind.u8 0, Value.int IntKind.u8 0, Value.int IntKind.u8 0, Value.int IntKind.u8 0, Value.int IntKind.u8 0, Value.int IntKind.u8 0, Value.int IntKind.u8 0, Value.int IntKind.u8 0, Value.int IntKind.u8 0, Value.int IntKind.u8 0, Value.int IntKind.u8 0, Value.int IntKind.u8 0, Value.int IntKind.u8 0, Value.int IntKind.u8 0, Value.int IntKind.u8 0, Value.int IntKind.u8 0, Value.int IntKind.u8 0, Value.int IntKind.u8 0, Value.int IntKind.u8 0, Value.int IntKind.u8 0, Value.int IntKind.u8 0] 5)) := fun _ => by kernel_rfl
  go_enter Try.func61, Try.ntmps61
  go_wp2
  clear hmk
  have R1 : Row ((w.alloc (.cells (arr 16 f) 33)).alloc (.cells #[Value.int IntKind.u8 0, Value.int IntKind.u8 0, Value.int IntKind.u8 0, Value.int IntKind.u8 0, Value.int IntKind.u8 0, Value.int IntKind.u8 0, Value.int IntKind.u8 0, Value.int IntKind.u8 0, Value.int IntKind.u8 0, Value.int IntKind.u8 0, Value.int IntKind.u8 0, Value.int IntKind.u8 0, Value.int IntKind.u8 0, Value.int IntKind.u8 0, Value.int IntKind.u8 0, Value.int IntKind.u8 0, Value.int IntKind.u8 0, Value.int IntKind.u8 0, Value.int IntKind.u8 0, Value.int IntKind.u8 0, Value.int IntKind.u8 0, Value.int IntKind.u8 0, Value.int IntKind.u8 0, Value.int IntKind.u8 0, Value.int IntKind.u8 0, Value.int IntKind.u8 0, Value.int IntKind.u8 0, Value.int IntKind.u8 0, Value.int IntKind.u8 0, Value.int IntKind.u8 0, Value.int IntKind.u8 0, Value.int IntKind.u8 0] 5)) w.heap.size 33 16 f := (Row.new w 33 16 f).alloc _
  have R2 : Byt ((w.alloc (.cells (arr 16 f) 33)).alloc (.cells #[Value.int IntKind.u8 0, Value.int IntKind.u8 0, Value.int IntKind.u8 0, Value.int IntKind.u8 0, Value.int IntKind.u8 0, Value.int IntKind.u8 0, Value.int IntKind.u8 0, Value.int IntKind.u8 0, Value.int IntKind.u8 0, Value.int IntKind.u8 0, Value.int IntKind.u8 0, Value.int IntKind.u8 0, Value.int IntKind.u8 0, Value.int IntKind.u8 0, Value.int IntKind.u8 0, Value.int IntKind.u8 0, Value.int IntKind.u8 0, Value.int IntKind.u8 0, Value.int IntKind.u8 0, Value.int IntKind.u8 0, Value.int IntKind.u8 0, Value.int IntKind.u8 0, Value.int IntKind.u8 0, Value.int IntKind.u8 0, Value.int IntKind.u8 0, Value.int IntKind.u8 0, Value.int IntKind.u8 0, Value.int IntKind.u8 0, Value.int IntKind.u8 0, Value.int IntKind.u8 0, Value.int IntKind.u8 0, Value.int IntKind.u8 0] 5)) (w.heap.size + 1) (rb f 0) := heap_alloc2_new w _ _
  have O : Below w.heap.size w ((w.alloc (.cells (arr 16 f) 33)).alloc (.cells #[Value.int IntKind.u8 0, Value.int IntKind.u8 0, Value.int IntKind.u8 0, Value.int IntKind.u8 0, Value.int IntKind.u8 0, Value.int IntKind.u8 0, Value.int IntKind.u8 0, Value.int IntKind.u8 0, Value.int IntKind.u8 0, Value.int IntKind.u8 0, Value.int IntKind.u8 0, Value.int IntKind.u8 0, Value.int IntKind.u8 0, Value.int IntKind.u8 0, Value.int IntKind.u8 0, Value.int IntKind.u8 0, Value.int IntKind.u8 0, Value.int IntKind.u8 0, Value.int IntKind.u8 0, Value.int IntKind.u8 0, Value.int IntKind.u8 0, Value.int IntKind.u8 0, Value.int IntKind.u8 0, Value.int IntKind.u8 0, Value.int IntKind.u8 0, Value.int IntKind.u8 0, Value.int IntKind.u8 0, Value.int IntKind.u8 0, Value.int IntKind.u8 0, Value.int IntKind.u8 0, Value.int IntKind.u8 0, Value.int IntKind.u8 0] 5)) := ((Below.refl _ _).alloc (Nat.le_refl _) _).alloc (by simp) _
  generalize (w.alloc (.cells (arr 16 f) 33)).alloc (.cells #[Value.int IntKind.u8 0, Value.int IntKind.u8 0, Value.int IntKind.u8 0, Value.int IntKind.u8 0, Value.int IntKind.u8 0, Value.int IntKind.u8 0, Value.int IntKind.u8 0, Value.int IntKind.u8 0, Value.int IntKind.u8 0, Value.int IntKind.u8 0, Value.int IntKind.u8 0, Value.int IntKind.u8 0, Value.int IntKind.u8 0, Value.int IntKind.u8 0, Value.int IntKind.u8 0, Value.int IntKind.u8 0, Value.int IntKind.u8 0, Value.int IntKind.u8 0, Value.int IntKind.u8 0, Value.int IntKind.u8 0, Value.int IntKind.u8 0, Value.int IntKind.u8 0, Value.int IntKind.u8 0, Value.int IntKind.u8 0, Value.int IntKind.u8 0, Value.int IntKind.u8 0, Value.int IntKind.u8 0, Value.int IntKind.u8 0, Value.int IntKind.u8 0, Value.int IntKind.u8 0, Value.int IntKind.u8 0, Value.int IntKind.u8 0] 5) = W at R1 R2 O ⊢
  go_loopw [4] (fun i wr => ∃ k : Nat, k ≤ 32 ∧ i = .int .i64 k ∧ Row wr w.heap.size 33 16 f ∧ Byt wr (w.heap.size + 1) (rb f k) ∧ Below w.heap.size w wr) (fun i _ => 32 - (intOf i).toNat)
  case atStart => exact ⟨0, by omega, rfl, R1, R2, O⟩
  case round =>
    clear R1 R2 O
    obtain ⟨k, hk, rfl, R1, R2, O⟩ := hrel
    by_cases hlt : k < 32
    · have hc : k = 0 ∨ k = 1 ∨ k = 2 ∨ k = 3 ∨ k = 4 ∨ k = 5 ∨ k = 6 ∨ k = 7 ∨ k = 8 ∨ k = 9 ∨ k = 10 ∨ k = 11 ∨ k = 12 ∨ k = 13 ∨ k = 14 ∨ k = 15 ∨ k = 16 ∨ k = 17 ∨ k = 18 ∨ k = 19 ∨ k = 20 ∨ k = 21 ∨ k = 22 ∨ k = 23 ∨ k = 24 ∨ k = 25 ∨ k = 26 ∨ k = 27 ∨ k = 28 ∨ k = 29 ∨ k = 30 ∨ k = 31 := by omega
      clear hlt hk
      rcases hc with rfl | rfl | rfl | rfl | rfl | rfl | rfl | rfl | rfl | rfl | rfl | rfl | rfl | rfl | rfl | rfl | rfl | rfl | rfl | rfl | rfl | rfl | rfl | rfl | rfl | rfl | rfl | rfl | rfl | rfl | rfl | rfl
      · have c := R1.cell (i := 0) (by omega)
        obtain ⟨a0, a1⟩ := hf 0 (by omega)
        obtain ⟨v, d⟩ := R2.cell (i := 0) (by rw [rb_len]; omega)
        have e := R2.free 0
        have HV := hide (show by16 f 0 = f 0 % 256 by simp [by16])
        have RR := hide (R2.set 0 (by16 f 0))
        have R1' := hide (R1.other (a := ⟨w.heap.size + 1, 0, none⟩) (by simp) (.int .u8 (by16 f 0)))
        have O' := hide (O.setCell (p := ⟨w.heap.size + 1, 0, none⟩) (by simp) (.int .u8 (by16 f 0)))
        clear R1 R2 O
        go_wp2
        rw [← HV.out]
        first | exact ⟨⟨1, by omega, rfl, R1'.out, by rw [← rb_set]; exact RR.out, O'.out⟩, by simp [intOf]⟩ | (go_roundw; (case rel => exact ⟨1, by omega, rfl, R1'.out, by rw [← rb_set]; exact RR.out, O'.out⟩); (case measure => simp [intOf]))
      · have c := R1.cell (i := 0) (by omega)
        obtain ⟨a0, a1⟩ := hf 0 (by omega)
        obtain ⟨v, d⟩ := R2.cell (i := 1) (by rw [rb_len]; omega)
        have e := R2.free 1
        have HV := hide (show by16 f 1 = f 0 / 256 by rw [show by16 f 1 = f 0 / 256 % 256 by simp [by16]]; omega)
        have RR := hide (R2.set 1 (by16 f 1))
        have R1' := hide (R1.other (a := ⟨w.heap.size + 1, 1, none⟩) (by simp) (.int .u8 (by16 f 1)))
        have O' := hide (O.setCell (p := ⟨w.heap.size + 1, 1, none⟩) (by simp) (.int .u8 (by16 f 1)))
        clear R1 R2 O
        go_wp2
        rw [← HV.out]
        first | exact ⟨⟨2, by omega, rfl, R1'.out, by rw [← rb_set]; exact RR.out, O'.out⟩, by simp [intOf]⟩ | (go_roundw; (case rel => exact ⟨2, by omega, rfl, R1'.out, by rw [← rb_set]; exact RR.out, O'.out⟩); (case measure => simp [intOf]))
      · have c := R1.cell (i := 1) (by omega)
        obtain ⟨a0, a1⟩ := hf 1 (by omega)
        obtain ⟨v, d⟩ := R2.cell (i := 2) (by rw [rb_len]; omega)
        have e := R2.free 2
        have HV := hide (show by16 f 2 = f 1 % 256 by simp [by16])
        have RR := hide (R2.set 2 (by16 f 2))
        have R1' := hide (R1.other (a := ⟨w.heap.size + 1, 2, none⟩) (by simp) (.int .u8 (by16 f 2)))
        have O' := hide (O.setCell (p := ⟨w.heap.size + 1, 2, none⟩) (by simp) (.int .u8 (by16 f 2)))
        clear R1 R2 O
        go_wp2
        rw [← HV.out]
        first | exact ⟨⟨3, by omega, rfl, R1'.out, by rw [← rb_set]; exact RR.out, O'.out⟩, by simp [intOf]⟩ | (go_roundw; (case rel => exact ⟨3, by omega, rfl, R1'.out, by rw [← rb_set]; exact RR.out, O'.out⟩); (case measure => simp [intOf]))
      · have c := R1.cell (i := 1) (by omega)
        obtain ⟨a0, a1⟩ := hf 1 (by omega)
        obtain ⟨v, d⟩ := R2.cell (i := 3) (by rw [rb_len]; omega)
        have e := R2.free 3
        have HV := hide (show by16 f 3 = f 1 / 256 by rw [show by16 f 3 = f 1 / 256 % 256 by simp [by16]]; omega)
        have RR := hide (R2.set 3 (by16 f 3))
        have R1' := hide (R1.other (a := ⟨w.heap.size + 1, 3, none⟩) (by simp) (.int .u8 (by16 f 3)))
        have O' := hide (O.setCell (p := ⟨w.heap.size + 1, 3, none⟩) (by simp) (.int .u8 (by16 f 3)))
        clear R1 R2 O
        go_wp2
        rw [← HV.out]
        first | exact ⟨⟨4, by omega, rfl, R1'.out, by rw [← rb_set]; exact RR.out, O'.out⟩, by simp [intOf]⟩ | (go_roundw; (case rel => exact ⟨4, by omega, rfl, R1'.out, by rw [← rb_set]; exact RR.out, O'.out⟩); (case measure => simp [intOf]))
      · have c := R1.cell (i := 2) (by omega)
        obtain ⟨a0, a1⟩ := hf 2 (by omega)
        obtain ⟨v, d⟩ := R2.cell (i := 4) (by rw [rb_len]; omega)
        have e := R2.free 4
        have HV := hide (show by16 f 4 = f 2 % 256 by simp [by16])
        have RR := hide (R2.set 4 (by16 f 4))
        have R1' := hide (R1.other (a := ⟨w.heap.size + 1, 4, none⟩) (by simp) (.int .u8 (by16 f 4)))
        have O' := hide (O.setCell (p := ⟨w.heap.size + 1, 4, none⟩) (by simp) (.int .u8 (by16 f 4)))
        clear R1 R2 O
        go_wp2
        rw [← HV.out]
        first | exact ⟨⟨5, by omega, rfl, R1'.out, by rw [← rb_set]; exact RR.out, O'.out⟩, by simp [intOf]⟩ | (go_roundw; (case rel => exact ⟨5, by omega, rfl, R1'.out, by rw [← rb_set]; exact RR.out, O'.out⟩); (case measure => simp [intOf]))
      · have c := R1.cell (i := 2) (by omega)
        obtain ⟨a0, a1⟩ := hf 2 (by omega)
        obtain ⟨v, d⟩ := R2.cell (i := 5) (by rw [rb_len]; omega)
        have e := R2.free 5
        have HV := hide (show by16 f 5 = f 2 / 256 by rw [show by16 f 5 = f 2 / 256 % 256 by simp [by16]]; omega)
        have RR := hide (R2.set 5 (by16 f 5))
        have R1' := hide (R1.other (a := ⟨w.heap.size + 1, 5, none⟩) (by simp) (.int .u8 (by16 f 5)))
        have O' := hide (O.setCell (p := ⟨w.heap.size + 1, 5, none⟩) (by simp) (.int .u8 (by16 f 5)))
        clear R1 R2 O
        go_wp2
        rw [← HV.out]
        first | exact ⟨⟨6, by omega, rfl, R1'.out, by rw [← rb_set]; exact RR.out, O'.out⟩, by simp [intOf]⟩ | (go_roundw; (case rel => exact ⟨6, by omega, rfl, R1'.out, by rw [← rb_set]; exact RR.out, O'.out⟩); (case measure => simp [intOf]))
      · have c := R1.cell (i := 3) (by omega)
        obtain ⟨a0, a1⟩ := hf 3 (by omega)
        obtain ⟨v, d⟩ := R2.cell (i := 6) (by rw [rb_len]; omega)
        have e := R2.free 6
        have HV := hide (show by16 f 6 = f 3 % 256 by simp [by16])
        have RR := hide (R2.set 6 (by16 f 6))
        have R1' := hide (R1.other (a := ⟨w.heap.size + 1, 6, none⟩) (by simp) (.int .u8 (by16 f 6)))
        have O' := hide (O.setCell (p := ⟨w.heap.size + 1, 6, none⟩) (by simp) (.int .u8 (by16 f 6)))
        clear R1 R2 O
        go_wp2
        rw [← HV.out]
        first | exact ⟨⟨7, by omega, rfl, R1'.out, by rw [← rb_set]; exact RR.out, O'.out⟩, by simp [intOf]⟩ | (go_roundw; (case rel => exact ⟨7, by omega, rfl, R1'.out, by rw [← rb_set]; exact RR.out, O'.out⟩); (case measure => simp [intOf]))
      · have c := R1.cell (i := 3) (by omega)
        obtain ⟨a0, a1⟩ := hf 3 (by omega)
        obtain ⟨v, d⟩ := R2.cell (i := 7) (by rw [rb_len]; omega)
        have e := R2.free 7
        have HV := hide (show by16 f 7 = f 3 / 256 by rw [show by16 f 7 = f 3 / 256 % 256 by simp [by16]]; omega)
        have RR := hide (R2.set 7 (by16 f 7))
        have R1' := hide (R1.other (a := ⟨w.heap.size + 1, 7, none⟩) (by simp) (.int .u8 (by16 f 7)))
        have O' := hide (O.setCell (p := ⟨w.heap.size + 1, 7, none⟩) (by simp) (.int .u8 (by16 f 7)))
        clear R1 R2 O
        go_wp2
        rw [← HV.out]
        first | exact ⟨⟨8, by omega, rfl, R1'.out, by rw [← rb_set]; exact RR.out, O'.out⟩, by simp [intOf]⟩ | (go_roundw; (case rel => exact ⟨8, by omega, rfl, R1'.out, by rw [← rb_set]; exact RR.out, O'.out⟩); (case measure => simp [intOf]))
      · have c := R1.cell (i := 4) (by omega)
        obtain ⟨a0, a1⟩ := hf 4 (by omega)
        obtain ⟨v, d⟩ := R2.cell (i := 8) (by rw [rb_len]; omega)
        have e := R2.free 8
        have HV := hide (show by16 f 8 = f 4 % 256 by simp [by16])
        have RR := hide (R2.set 8 (by16 f 8))
        have R1' := hide (R1.other (a := ⟨w.heap.size + 1, 8, none⟩) (by simp) (.int .u8 (by16 f 8)))
        have O' := hide (O.setCell (p := ⟨w.heap.size + 1, 8, none⟩) (by simp) (.int .u8 (by16 f 8)))
        clear R1 R2 O
        go_wp2
        rw [← HV.out]
        first | exact ⟨⟨9, by omega, rfl, R1'.out, by rw [← rb_set]; exact RR.out, O'.out⟩, by simp [intOf]⟩ | (go_roundw; (case rel => exact ⟨9, by omega, rfl, R1'.out, by rw [← rb_set]; exact RR.out, O'.out⟩); (case measure => simp [intOf]))
      · have c := R1.cell (i := 4) (by omega)
        obtain ⟨a0, a1⟩ := hf 4 (by omega)
        obtain ⟨v, d⟩ := R2.cell (i := 9) (by rw [rb_len]; omega)
        have e := R2.free 9
        have HV := hide (show by16 f 9 = f 4 / 256 by rw [show by16 f 9 = f 4 / 256 % 256 by simp [by16]]; omega)
        have RR := hide (R2.set 9 (by16 f 9))
        have R1' := hide (R1.other (a := ⟨w.heap.size + 1, 9, none⟩) (by simp) (.int .u8 (by16 f 9)))
        have O' := hide (O.setCell (p := ⟨w.heap.size + 1, 9, none⟩) (by simp) (.int .u8 (by16 f 9)))
        clear R1 R2 O
        go_wp2
        rw [← HV.out]
        first | exact ⟨⟨10, by omega, rfl, R1'.out, by rw [← rb_set]; exact RR.out, O'.out⟩, by simp [intOf]⟩ | (go_roundw; (case rel => exact ⟨10, by omega, rfl, R1'.out, by rw [← rb_set]; exact RR.out, O'.out⟩); (case measure => simp [intOf]))
      · have c := R1.cell (i := 5) (by omega)
        obtain ⟨a0, a1⟩ := hf 5 (by omega)
        obtain ⟨v, d⟩ := R2.cell (i := 10) (by rw [rb_len]; omega)
        have e := R2.free 10
        have HV := hide (show by16 f 10 = f 5 % 256 by simp [by16])
        have RR := hide (R2.set 10 (by16 f 10))
        have R1' := hide (R1.other (a := ⟨w.heap.size + 1, 10, none⟩) (by simp) (.int .u8 (by16 f 10)))
        have O' := hide (O.setCell (p := ⟨w.heap.size + 1, 10, none⟩) (by simp) (.int .u8 (by16 f 10)))
        clear R1 R2 O
        go_wp2
        rw [← HV.out]
        first | exact ⟨⟨11, by omega, rfl, R1'.out, by rw [← rb_set]; exact RR.out, O'.out⟩, by simp [intOf]⟩ | (go_roundw; (case rel => exact ⟨11, by omega, rfl, R1'.out, by rw [← rb_set]; exact RR.out, O'.out⟩); (case measure => simp [intOf]))
      · have c := R1.cell (i := 5) (by omega)
        obtain ⟨a0, a1⟩ := hf 5 (by omega)
        obtain ⟨v, d⟩ := R2.cell (i := 11) (by rw [rb_len]; omega)
        have e := R2.free 11
        have HV := hide (show by16 f 11 = f 5 / 256 by rw [show by16 f 11 = f 5 / 256 % 256 by simp [by16]]; omega)
        have RR := hide (R2.set 11 (by16 f 11))
        have R1' := hide (R1.other (a := ⟨w.heap.size + 1, 11, none⟩) (by simp) (.int .u8 (by16 f 11)))
        have O' := hide (O.setCell (p := ⟨w.heap.size + 1, 11, none⟩) (by simp) (.int .u8 (by16 f 11)))
        clear R1 R2 O
        go_wp2
        rw [← HV.out]
        first | exact ⟨⟨12, by omega, rfl, R1'.out, by rw [← rb_set]; exact RR.out, O'.out⟩, by simp [intOf]⟩ | (go_roundw; (case rel => exact ⟨12, by omega, rfl, R1'.out, by rw [← rb_set]; exact RR.out, O'.out⟩); (case measure => simp [intOf]))
      · have c := R1.cell (i := 6) (by omega)
        obtain ⟨a0, a1⟩ := hf 6 (by omega)
        obtain ⟨v, d⟩ := R2.cell (i := 12) (by rw [rb_len]; omega)
        have e := R2.free 12
        have HV := hide (show by16 f 12 = f 6 % 256 by simp [by16])
        have RR := hide (R2.set 12 (by16 f 12))
        have R1' := hide (R1.other (a := ⟨w.heap.size + 1, 12, none⟩) (by simp) (.int .u8 (by16 f 12)))
        have O' := hide (O.setCell (p := ⟨w.heap.size + 1, 12, none⟩) (by simp) (.int .u8 (by16 f 12)))
        clear R1 R2 O
        go_wp2
        rw [← HV.out]
        first | exact ⟨⟨13, by omega, rfl, R1'.out, by rw [← rb_set]; exact RR.out, O'.out⟩, by simp [intOf]⟩ | (go_roundw; (case rel => exact ⟨13, by omega, rfl, R1'.out, by rw [← rb_set]; exact RR.out, O'.out⟩); (case measure => simp [intOf]))
      · have c := R1.cell (i := 6) (by omega)
        obtain ⟨a0, a1⟩ := hf 6 (by omega)
        obtain ⟨v, d⟩ := R2.cell (i := 13) (by rw [rb_len]; omega)
        have e := R2.free 13
        have HV := hide (show by16 f 13 = f 6 / 256 by rw [show by16 f 13 = f 6 / 256 % 256 by simp [by16]]; omega)
        have RR := hide (R2.set 13 (by16 f 13))
        have R1' := hide (R1.other (a := ⟨w.heap.size + 1, 13, none⟩) (by simp) (.int .u8 (by16 f 13)))
        have O' := hide (O.setCell (p := ⟨w.heap.size + 1, 13, none⟩) (by simp) (.int .u8 (by16 f 13)))
        clear R1 R2 O
        go_wp2
        rw [← HV.out]
        first | exact ⟨⟨14, by omega, rfl, R1'.out, by rw [← rb_set]; exact RR.out, O'.out⟩, by simp [intOf]⟩ | (go_roundw; (case rel => exact ⟨14, by omega, rfl, R1'.out, by rw [← rb_set]; exact RR.out, O'.out⟩); (case measure => simp [intOf]))
      · have c := R1.cell (i := 7) (by omega)
        obtain ⟨a0, a1⟩ := hf 7 (by omega)
        obtain ⟨v, d⟩ := R2.cell (i := 14) (by rw [rb_len]; omega)
        have e := R2.free 14
        have HV := hide (show by16 f 14 = f 7 % 256 by simp [by16])
        have RR := hide (R2.set 14 (by16 f 14))
        have R1' := hide (R1.other (a := ⟨w.heap.size + 1, 14, none⟩) (by simp) (.int .u8 (by16 f 14)))
        have O' := hide (O.setCell (p := ⟨w.heap.size + 1, 14, none⟩) (by simp) (.int .u8 (by16 f 14)))
        clear R1 R2 O
        go_wp2
        rw [← HV.out]
        first | exact ⟨⟨15, by omega, rfl, R1'.out, by rw [← rb_set]; exact RR.out, O'.out⟩, by simp [intOf]⟩ | (go_roundw; (case rel => exact ⟨15, by omega, rfl, R1'.out, by rw [← rb_set]; exact RR.out, O'.out⟩); (case measure => simp [intOf]))
      · have c := R1.cell (i := 7) (by omega)
        obtain ⟨a0, a1⟩ := hf 7 (by omega)
        obtain ⟨v, d⟩ := R2.cell (i := 15) (by rw [rb_len]; omega)
        have e := R2.free 15
        have HV := hide (show by16 f 15 = f 7 / 256 by rw [show by16 f 15 = f 7 / 256 % 256 by simp [by16]]; omega)
        have RR := hide (R2.set 15 (by16 f 15))
        have R1' := hide (R1.other (a := ⟨w.heap.size + 1, 15, none⟩) (by simp) (.int .u8 (by16 f 15)))
        have O' := hide (O.setCell (p := ⟨w.heap.size + 1, 15, none⟩) (by simp) (.int .u8 (by16 f 15)))
        clear R1 R2 O
        go_wp2
        rw [← HV.out]
        first | exact ⟨⟨16, by omega, rfl, R1'.out, by rw [← rb_set]; exact RR.out, O'.out⟩, by simp [intOf]⟩ | (go_roundw; (case rel => exact ⟨16, by omega, rfl, R1'.out, by rw [← rb_set]; exact RR.out, O'.out⟩); (case measure => simp [intOf]))
      · have c := R1.cell (i := 8) (by omega)
        obtain ⟨a0, a1⟩ := hf 8 (by omega)
        obtain ⟨v, d⟩ := R2.cell (i := 16) (by rw [rb_len]; omega)
        have e := R2.free 16
        have HV := hide (show by16 f 16 = f 8 % 256 by simp [by16])
        have RR := hide (R2.set 16 (by16 f 16))
        have R1' := hide (R1.other (a := ⟨w.heap.size + 1, 16, none⟩) (by simp) (.int .u8 (by16 f 16)))
        have O' := hide (O.setCell (p := ⟨w.heap.size + 1, 16, none⟩) (by simp) (.int .u8 (by16 f 16)))
        clear R1 R2 O
        go_wp2
        rw [← HV.out]
        first | exact ⟨⟨17, by omega, rfl, R1'.out, by rw [← rb_set]; exact RR.out, O'.out⟩, by simp [intOf]⟩ | (go_roundw; (case rel => exact ⟨17, by omega, rfl, R1'.out, by rw [← rb_set]; exact RR.out, O'.out⟩); (case measure => simp [intOf]))
      · have c := R1.cell (i := 8) (by omega)
        obtain ⟨a0, a1⟩ := hf 8 (by omega)
        obtain ⟨v, d⟩ := R2.cell (i := 17) (by rw [rb_len]; omega)
        have e := R2.free 17
        have HV := hide (show by16 f 17 = f 8 / 256 by rw [show by16 f 17 = f 8 / 256 % 256 by simp [by16]]; omega)
        have RR := hide (R2.set 17 (by16 f 17))
        have R1' := hide (R1.other (a := ⟨w.heap.size + 1, 17, none⟩) (by simp) (.int .u8 (by16 f 17)))
        have O' := hide (O.setCell (p := ⟨w.heap.size + 1, 17, none⟩) (by simp) (.int .u8 (by16 f 17)))
        clear R1 R2 O
        go_wp2
        rw [← HV.out]
        first | exact ⟨⟨18, by omega, rfl, R1'.out, by rw [← rb_set]; exact RR.out, O'.out⟩, by simp [intOf]⟩ | (go_roundw; (case rel => exact ⟨18, by omega, rfl, R1'.out, by rw [← rb_set]; exact RR.out, O'.out⟩); (case measure => simp [intOf]))
      · have c := R1.cell (i := 9) (by omega)
        obtain ⟨a0, a1⟩ := hf 9 (by omega)
        obtain ⟨v, d⟩ := R2.cell (i := 18) (by rw [rb_len]; omega)
        have e := R2.free 18
        have HV := hide (show by16 f 18 = f 9 % 256 by simp [by16])
        have RR := hide (R2.set 18 (by16 f 18))
        have R1' := hide (R1.other (a := ⟨w.heap.size + 1, 18, none⟩) (by simp) (.int .u8 (by16 f 18)))
        have O' := hide (O.setCell (p := ⟨w.heap.size + 1, 18, none⟩) (by simp) (.int .u8 (by16 f 18)))
        clear R1 R2 O
        go_wp2
        rw [← HV.out]
        first | exact ⟨⟨19, by omega, rfl, R1'.out, by rw [← rb_set]; exact RR.out, O'.out⟩, by simp [intOf]⟩ | (go_roundw; (case rel => exact ⟨19, by omega, rfl, R1'.out, by rw [← rb_set]; exact RR.out, O'.out⟩); (case measure => simp [intOf]))
      · have c := R1.cell (i := 9) (by omega)
        obtain ⟨a0, a1⟩ := hf 9 (by omega)
        obtain ⟨v, d⟩ := R2.cell (i := 19) (by rw [rb_len]; omega)
        have e := R2.free 19
        have HV := hide (show by16 f 19 = f 9 / 256 by rw [show by16 f 19 = f 9 / 256 % 256 by simp [by16]]; omega)
        have RR := hide (R2.set 19 (by16 f 19))
        have R1' := hide (R1.other (a := ⟨w.heap.size + 1, 19, none⟩) (by simp) (.int .u8 (by16 f 19)))
        have O' := hide (O.setCell (p := ⟨w.heap.size + 1, 19, none⟩) (by simp) (.int .u8 (by16 f 19)))
        clear R1 R2 O
        go_wp2
        rw [← HV.out]
        first | exact ⟨⟨20, by omega, rfl, R1'.out, by rw [← rb_set]; exact RR.out, O'.out⟩, by simp [intOf]⟩ | (go_roundw; (case rel => exact ⟨20, by omega, rfl, R1'.out, by rw [← rb_set]; exact RR.out, O'.out⟩); (case measure => simp [intOf]))
      · have c := R1.cell (i := 10) (by omega)
        obtain ⟨a0, a1⟩ := hf 10 (by omega)
        obtain ⟨v, d⟩ := R2.cell (i := 20) (by rw [rb_len]; omega)
        have e := R2.free 20
        have HV := hide (show by16 f 20 = f 10 % 256 by simp [by16])
        have RR := hide (R2.set 20 (by16 f 20))
        have R1' := hide (R1.other (a := ⟨w.heap.size + 1, 20, none⟩) (by simp) (.int .u8 (by16 f 20)))
        have O' := hide (O.setCell (p := ⟨w.heap.size + 1, 20, none⟩) (by simp) (.int .u8 (by16 f 20)))
        clear R1 R2 O
        go_wp2
        rw [← HV.out]
        first | exact ⟨⟨21, by omega, rfl, R1'.out, by rw [← rb_set]; exact RR.out, O'.out⟩, by simp [intOf]⟩ | (go_roundw; (case rel => exact ⟨21, by omega, rfl, R1'.out, by rw [← rb_set]; exact RR.out, O'.out⟩); (case measure => simp [intOf]))
      · have c := R1.cell (i := 10) (by omega)
        obtain ⟨a0, a1⟩ := hf 10 (by omega)
        obtain ⟨v, d⟩ := R2.cell (i := 21) (by rw [rb_len]; omega)
        have e := R2.free 21
        have HV := hide (show by16 f 21 = f 10 / 256 by rw [show by16 f 21 = f 10 / 256 % 256 by simp [by16]]; omega)
        have RR := hide (R2.set 21 (by16 f 21))
        have R1' := hide (R1.other (a := ⟨w.heap.size + 1, 21, none⟩) (by simp) (.int .u8 (by16 f 21)))
        have O' := hide (O.setCell (p := ⟨w.heap.size + 1, 21, none⟩) (by simp) (.int .u8 (by16 f 21)))
        clear R1 R2 O
        go_wp2
        rw [← HV.out]
        first | exact ⟨⟨22, by omega, rfl, R1'.out, by rw [← rb_set]; exact RR.out, O'.out⟩, by simp [intOf]⟩ | (go_roundw; (case rel => exact ⟨22, by omega, rfl, R1'.out, by rw [← rb_set]; exact RR.out, O'.out⟩); (case measure => simp [intOf]))
      · have c := R1.cell (i := 11) (by omega)
        obtain ⟨a0, a1⟩ := hf 11 (by omega)
        obtain ⟨v, d⟩ := R2.cell (i := 22) (by rw [rb_len]; omega)
        have e := R2.free 22
        have HV := hide (show by16 f 22 = f 11 % 256 by simp [by16])
        have RR := hide (R2.set 22 (by16 f 22))
        have R1' := hide (R1.other (a := ⟨w.heap.size + 1, 22, none⟩) (by simp) (.int .u8 (by16 f 22)))
        have O' := hide (O.setCell (p := ⟨w.heap.size + 1, 22, none⟩) (by simp) (.int .u8 (by16 f 22)))
        clear R1 R2 O
        go_wp2
        rw [← HV.out]
        first | exact ⟨⟨23, by omega, rfl, R1'.out, by rw [← rb_set]; exact RR.out, O'.out⟩, by simp [intOf]⟩ | (go_roundw; (case rel => exact ⟨23, by omega, rfl, R1'.out, by rw [← rb_set]; exact RR.out, O'.out⟩); (case measure => simp [intOf]))
      · have c := R1.cell (i := 11) (by omega)
        obtain ⟨a0, a1⟩ := hf 11 (by omega)
        obtain ⟨v, d⟩ := R2.cell (i := 23) (by rw [rb_len]; omega)
        have e := R2.free 23
        have HV := hide (show by16 f 23 = f 11 / 256 by rw [show by16 f 23 = f 11 / 256 % 256 by simp [by16]]; omega)
        have RR := hide (R2.set 23 (by16 f 23))
        have R1' := hide (R1.other (a := ⟨w.heap.size + 1, 23, none⟩) (by simp) (.int .u8 (by16 f 23)))
        have O' := hide (O.setCell (p := ⟨w.heap.size + 1, 23, none⟩) (by simp) (.int .u8 (by16 f 23)))
        clear R1 R2 O
        go_wp2
        rw [← HV.out]
        first | exact ⟨⟨24, by omega, rfl, R1'.out, by rw [← rb_set]; exact RR.out, O'.out⟩, by simp [intOf]⟩ | (go_roundw; (case rel => exact ⟨24, by omega, rfl, R1'.out, by rw [← rb_set]; exact RR.out, O'.out⟩); (case measure => simp [intOf]))
      · have c := R1.cell (i := 12) (by omega)
        obtain ⟨a0, a1⟩ := hf 12 (by omega)
        obtain ⟨v, d⟩ := R2.cell (i := 24) (by rw [rb_len]; omega)
        have e := R2.free 24
        have HV := hide (show by16 f 24 = f 12 % 256 by simp [by16])
        have RR := hide (R2.set 24 (by16 f 24))
        have R1' := hide (R1.other (a := ⟨w.heap.size + 1, 24, none⟩) (by simp) (.int .u8 (by16 f 24)))
        have O' := hide (O.setCell (p := ⟨w.heap.size + 1, 24, none⟩) (by simp) (.int .u8 (by16 f 24)))
        clear R1 R2 O
        go_wp2
        rw [← HV.out]
        first | exact ⟨⟨25, by omega, rfl, R1'.out, by rw [← rb_set]; exact RR.out, O'.out⟩, by simp [intOf]⟩ | (go_roundw; (case rel => exact ⟨25, by omega, rfl, R1'.out, by rw [← rb_set]; exact RR.out, O'.out⟩); (case measure => simp [intOf]))
      · have c := R1.cell (i := 12) (by omega)
        obtain ⟨a0, a1⟩ := hf 12 (by omega)
        obtain ⟨v, d⟩ := R2.cell (i := 25) (by rw [rb_len]; omega)
        have e := R2.free 25
        have HV := hide (show by16 f 25 = f 12 / 256 by rw [show by16 f 25 = f 12 / 256 % 256 by simp [by16]]; omega)
        have RR := hide (R2.set 25 (by16 f 25))
        have R1' := hide (R1.other (a := ⟨w.heap.size + 1, 25, none⟩) (by simp) (.int .u8 (by16 f 25)))
        have O' := hide (O.setCell (p := ⟨w.heap.size + 1, 25, none⟩) (by simp) (.int .u8 (by16 f 25)))
        clear R1 R2 O
        go_wp2
        rw [← HV.out]
        first | exact ⟨⟨26, by omega, rfl, R1'.out, by rw [← rb_set]; exact RR.out, O'.out⟩, by simp [intOf]⟩ | (go_roundw; (case rel => exact ⟨26, by omega, rfl, R1'.out, by rw [← rb_set]; exact RR.out, O'.out⟩); (case measure => simp [intOf]))
      · have c := R1.cell (i := 13) (by omega)
        obtain ⟨a0, a1⟩ := hf 13 (by omega)
        obtain ⟨v, d⟩ := R2.cell (i := 26) (by rw [rb_len]; omega)
        have e := R2.free 26
        have HV := hide (show by16 f 26 = f 13 % 256 by simp [by16])
        have RR := hide (R2.set 26 (by16 f 26))
        have R1' := hide (R1.other (a := ⟨w.heap.size + 1, 26, none⟩) (by simp) (.int .u8 (by16 f 26)))
        have O' := hide (O.setCell (p := ⟨w.heap.size + 1, 26, none⟩) (by simp) (.int .u8 (by16 f 26)))
        clear R1 R2 O
        go_wp2
        rw [← HV.out]
        first | exact ⟨⟨27, by omega, rfl, R1'.out, by rw [← rb_set]; exact RR.out, O'.out⟩, by simp [intOf]⟩ | (go_roundw; (case rel => exact ⟨27, by omega, rfl, R1'.out, by rw [← rb_set]; exact RR.out, O'.out⟩); (case measure => simp [intOf]))
      · have c := R1.cell (i := 13) (by omega)
        obtain ⟨a0, a1⟩ := hf 13 (by omega)
        obtain ⟨v, d⟩ := R2.cell (i := 27) (by rw [rb_len]; omega)
        have e := R2.free 27
        have HV := hide (show by16 f 27 = f 13 / 256 by rw [show by16 f 27 = f 13 / 256 % 256 by simp [by16]]; omega)
        have RR := hide (R2.set 27 (by16 f 27))
        have R1' := hide (R1.other (a := ⟨w.heap.size + 1, 27, none⟩) (by simp) (.int .u8 (by16 f 27)))
        have O' := hide (O.setCell (p := ⟨w.heap.size + 1, 27, none⟩) (by simp) (.int .u8 (by16 f 27)))
        clear R1 R2 O
        go_wp2
        rw [← HV.out]
        first | exact ⟨⟨28, by omega, rfl, R1'.out, by rw [← rb_set]; exact RR.out, O'.out⟩, by simp [intOf]⟩ | (go_roundw; (case rel => exact ⟨28, by omega, rfl, R1'.out, by rw [← rb_set]; exact RR.out, O'.out⟩); (case measure => simp [intOf]))
      · have c := R1.cell (i := 14) (by omega)
        obtain ⟨a0, a1⟩ := hf 14 (by omega)
        obtain ⟨v, d⟩ := R2.cell (i := 28) (by rw [rb_len]; omega)
        have e := R2.free 28
        have HV := hide (show by16 f 28 = f 14 % 256 by simp [by16])
        have RR := hide (R2.set 28 (by16 f 28))
        have R1' := hide (R1.other (a := ⟨w.heap.size + 1, 28, none⟩) (by simp) (.int .u8 (by16 f 28)))
        have O' := hide (O.setCell (p := ⟨w.heap.size + 1, 28, none⟩) (by simp) (.int .u8 (by16 f 28)))
        clear R1 R2 O
        go_wp2
        rw [← HV.out]
        first | exact ⟨⟨29, by omega, rfl, R1'.out, by rw [← rb_set]; exact RR.out, O'.out⟩, by simp [intOf]⟩ | (go_roundw; (case rel => exact ⟨29, by omega, rfl, R1'.out, by rw [← rb_set]; exact RR.out, O'.out⟩); (case measure => simp [intOf]))
      · have c := R1.cell (i := 14) (by omega)
        obtain ⟨a0, a1⟩ := hf 14 (by omega)
        obtain ⟨v, d⟩ := R2.cell (i := 29) (by rw [rb_len]; omega)
        have e := R2.free 29
        have HV := hide (show by16 f 29 = f 14 / 256 by rw [show by16 f 29 = f 14 / 256 % 256 by simp [by16]]; omega)
        have RR := hide (R2.set 29 (by16 f 29))
        have R1' := hide (R1.other (a := ⟨w.heap.size + 1, 29, none⟩) (by simp) (.int .u8 (by16 f 29)))
        have O' := hide (O.setCell (p := ⟨w.heap.size + 1, 29, none⟩) (by simp) (.int .u8 (by16 f 29)))
        clear R1 R2 O
        go_wp2
        rw [← HV.out]
        first | exact ⟨⟨30, by omega, rfl, R1'.out, by rw [← rb_set]; exact RR.out, O'.out⟩, by simp [intOf]⟩ | (go_roundw; (case rel => exact ⟨30, by omega, rfl, R1'.out, by rw [← rb_set]; exact RR.out, O'.out⟩); (case measure => simp [intOf]))
      · have c := R1.cell (i := 15) (by omega)
        obtain ⟨a0, a1⟩ := hf 15 (by omega)
        obtain ⟨v, d⟩ := R2.cell (i := 30) (by rw [rb_len]; omega)
        have e := R2.free 30
        have HV := hide (show by16 f 30 = f 15 % 256 by simp [by16])
        have RR := hide (R2.set 30 (by16 f 30))
        have R1' := hide (R1.other (a := ⟨w.heap.size + 1, 30, none⟩) (by simp) (.int .u8 (by16 f 30)))
        have O' := hide (O.setCell (p := ⟨w.heap.size + 1, 30, none⟩) (by simp) (.int .u8 (by16 f 30)))
        clear R1 R2 O
        go_wp2
        rw [← HV.out]
        first | exact ⟨⟨31, by omega, rfl, R1'.out, by rw [← rb_set]; exact RR.out, O'.out⟩, by simp [intOf]⟩ | (go_roundw; (case rel => exact ⟨31, by omega, rfl, R1'.out, by rw [← rb_set]; exact RR.out, O'.out⟩); (case measure => simp [intOf]))
      · have c := R1.cell (i := 15) (by omega)
        obtain ⟨a0, a1⟩ := hf 15 (by omega)
        obtain ⟨v, d⟩ := R2.cell (i := 31) (by rw [rb_len]; omega)
        have e := R2.free 31
        have HV := hide (show by16 f 31 = f 15 / 256 by rw [show by16 f 31 = f 15 / 256 % 256 by simp [by16]]; omega)
        have RR := hide (R2.set 31 (by16 f 31))
        have R1' := hide (R1.other (a := ⟨w.heap.size + 1, 31, none⟩) (by simp) (.int .u8 (by16 f 31)))
        have O' := hide (O.setCell (p := ⟨w.heap.size + 1, 31, none⟩) (by simp) (.int .u8 (by16 f 31)))
        clear R1 R2 O
        go_wp2
        rw [← HV.out]
        first | exact ⟨⟨32, by omega, rfl, R1'.out, by rw [← rb_set]; exact RR.out, O'.out⟩, by simp [intOf]⟩ | (go_roundw; (case rel => exact ⟨32, by omega, rfl, R1'.out, by rw [← rb_set]; exact RR.out, O'.out⟩); (case measure => simp [intOf]))
    · have e : k = 32 := by omega
      subst e
      have hcv := conv_bytes wr (w.heap.size + 1) 5 (rb f 32) 32 32 (0, 0) R2 (rb_len f 32)
      generalize hB : bs (rb f 32) = B at hcv
      have HB := hide hB
      clear hB R1 R2
      go_wp2
      go_ret
      exact ⟨by rw [HB.out]; rfl, O⟩

end Go.Proofs.Ytkeocdebfgcnnaa.Ord

/- When an answer is the document's; the document's order and twice. -/
namespace Go.Proofs.Ytkeocdebfgcnnaa.Ord
open Go.RowKit

set_option maxHeartbeats 2000000 in
theorem digs4 {a b c d : Int} (ha : 0 ≤ a ∧ a < 65536) (hb : 0 ≤ b ∧ b < 65536) (hc : 0 ≤ c ∧ c < 65536) (_hd : 0 ≤ d ∧ d < 65536) :
    digs (a + 65536 * b + 4294967296 * c + 281474976710656 * d) = [a % 256, a / 256 % 256, b % 256, b / 256 % 256, c % 256, c / 256 % 256, d % 256, d / 256 % 256] := by
  unfold digs
  have h1 : (a + 65536 * b + 4294967296 * c + 281474976710656 * d) % 256 = a % 256 := by omega
  have h2 : (a + 65536 * b + 4294967296 * c + 281474976710656 * d) / 256 % 256 = a / 256 % 256 := by omega
  have h3 : (a + 65536 * b + 4294967296 * c + 281474976710656 * d) / 65536 % 256 = b % 256 := by omega
  have h4 : (a + 65536 * b + 4294967296 * c + 281474976710656 * d) / 16777216 % 256 = b / 256 % 256 := by omega
  have h5 : (a + 65536 * b + 4294967296 * c + 281474976710656 * d) / 4294967296 % 256 = c % 256 := by omega
  have h6 : (a + 65536 * b + 4294967296 * c + 281474976710656 * d) / 1099511627776 % 256 = c / 256 % 256 := by omega
  have h7 : (a + 65536 * b + 4294967296 * c + 281474976710656 * d) / 281474976710656 % 256 = d % 256 := by omega
  have h8 : (a + 65536 * b + 4294967296 * c + 281474976710656 * d) / 72057594037927936 % 256 = d / 256 % 256 := by omega
  rw [h1, h2, h3, h4, h5, h6, h7, h8]

theorem S16 (f : Nat → Int) : S f 16 = f 0 + f 1 * 65536 + f 2 * 4294967296 + f 3 * 281474976710656 + f 4 * 18446744073709551616 + f 5 * 1208925819614629174706176 + f 6 * 79228162514264337593543950336 + f 7 * 5192296858534827628530496329220096 + f 8 * 340282366920938463463374607431768211456 + f 9 * 22300745198530623141535718272648361505980416 + f 10 * 1461501637330902918203684832716283019655932542976 + f 11 * 95780971304118053647396689196894323976171195136475136 + f 12 * 6277101735386680763835789423207666416102355444464034512896 + f 13 * 411376139330301510538742295639337626245683966408394965837152256 + f 14 * 26959946667150639794667015087019630673637144422540572481103610249216 + f 15 * 1766847064778384329583297500742918515827483896875618958121606201292619776 := by
  simp [S]

set_option maxHeartbeats 2000000 in
theorem lebytes_S {f : Nat → Int} (hf : Dig f 16) : lebytes (S f 16) = bs (rb f 32) := by
  have h0 := hf 0 (by omega)
  have h1 := hf 1 (by omega)
  have h2 := hf 2 (by omega)
  have h3 := hf 3 (by omega)
  have h4 := hf 4 (by omega)
  have h5 := hf 5 (by omega)
  have h6 := hf 6 (by omega)
  have h7 := hf 7 (by omega)
  have h8 := hf 8 (by omega)
  have h9 := hf 9 (by omega)
  have h10 := hf 10 (by omega)
  have h11 := hf 11 (by omega)
  have h12 := hf 12 (by omega)
  have h13 := hf 13 (by omega)
  have h14 := hf 14 (by omega)
  have h15 := hf 15 (by omega)
  have e := S16 f
  have w0 : S f 16 % 18446744073709551616 = f 0 + 65536 * f 1 + 4294967296 * f 2 + 281474976710656 * f 3 := by rw [e]; omega
  have w1 : S f 16 / 18446744073709551616 % 18446744073709551616 = f 4 + 65536 * f 5 + 4294967296 * f 6 + 281474976710656 * f 7 := by rw [e]; omega
  have w2 : S f 16 / 340282366920938463463374607431768211456 % 18446744073709551616 = f 8 + 65536 * f 9 + 4294967296 * f 10 + 281474976710656 * f 11 := by rw [e]; omega
  have w3 : S f 16 / 6277101735386680763835789423207666416102355444464034512896 % 18446744073709551616 = f 12 + 65536 * f 13 + 4294967296 * f 14 + 281474976710656 * f 15 := by rw [e]; omega
  unfold lebytes
  rw [w0, w1, w2, w3, digs4 h0 h1 h2 h3, digs4 h4 h5 h6 h7, digs4 h8 h9 h10 h11, digs4 h12 h13 h14 h15]
  congr 1
  simp [rb, by16, List.range, List.range.loop]

/-- The digits of the order. -/
def oF : Nat → Int := fun i => [54253, 23797, 25370, 22546, 40150, 41719, 63966, 5342, 0, 0, 0, 0, 0, 0, 0, 4096].getD i 0
theorem oF_S : S oF 16 = Lm := by decide +kernel
theorem oF_dig : Dig oF 16 := by
  have h : ∀ i : Fin 16, 0 ≤ oF i ∧ oF i < 65536 := by decide
  exact fun i hi => h ⟨i, hi⟩

end Go.Proofs.Ytkeocdebfgcnnaa.Ord

/- The contract of the document's twice. -/
namespace Go.Proofs.Ytkeocdebfgcnnaa.Ord
open Go.RowKit

theorem L16 : 2 * Lm + 1 < 65536 ^ 16 := by decide
theorem dSL {N : Int} (h0 : 0 ≤ N) (h1 : N < 65536 ^ 16) : S (d16 N) 16 = N := by rw [d16_S _ h0, Int.emod_eq_of_lt h0 h1]

end Go.Proofs.Ytkeocdebfgcnnaa.Ord

/- The contract of the document's Neg. -/
namespace Go.Proofs.Ytkeocdebfgcnnaa.Ord
open Go.RowKit

theorem neg_zero {a : Nat → Int} (h : eqw a (fun _ => 0) 0 16 = true) : arr 16 (d16 ((- S a 16) % Lm)) = arr 16 a := by
  have hz := (eqw_iff a (fun _ => 0) 16 0).1 h
  have e : S a 16 = 0 := by rw [S_congr (g := fun _ => 0) fun i hi => hz i (by omega) (by omega), S_zero]
  rw [e]
  refine arr_congr fun i hi => ?_
  rw [hz i (by omega) (by omega)]
  simp [d16]

theorem neg_some {a : Nat → Int} (ha : Dig a 16) (hlt : S a 16 < Lm) (h : eqw a (fun _ => 0) 0 16 = false) : arr 16 (d16 ((- S a 16) % Lm)) = arr 16 (minusF oF a) := by
  have hm : S (minusF oF a) 16 = Lm - S a 16 := by rw [minus_le oF_dig ha (by rw [oF_S]; omega), oF_S]
  have h0 := (S_bd ha).1
  have hne : S a 16 ≠ 0 := by
    intro e
    have hz : ∀ i, i < 16 → a i = 0 := fun i hi => S_inj (f := a) (g := fun _ => 0) ha (fun _ _ => ⟨Int.le_refl 0, (by decide : (0 : Int) < 65536)⟩) (by rw [e, S_zero]) i hi
    have := (eqw_iff a (fun _ => 0) 16 0).2 fun i _ hi => hz i (by omega)
    rw [this] at h
    cases h
  have e : (- S a 16) % Lm = Lm - S a 16 := by
    have e2 : (- S a 16) % Lm = (- S a 16 + Lm) % Lm := by rw [Int.add_emod_right]
    rw [e2, Int.emod_eq_of_lt (by omega) (by omega)]
    omega
  have hL := L16
  refine arr_congr (S_inj (d16_dig _ 16) (minusF_dig oF a 16) ?_)
  rw [e, dSL (by omega) (by omega), hm]

end Go.Proofs.Ytkeocdebfgcnnaa.Ord


/- The contracts of wordsOf, number and Of: which number 32 bytes are. -/
namespace Go.Proofs.Ytkeocdebfgcnnaa.Ord
open Go.RowKit

/-- Byte i of a string, as a number. -/
def bt (s : ByteArray) (i : Nat) : Int := ((s.data[i]?.getD 0).toNat : Int)

theorem bt_bd (s : ByteArray) (i : Nat) : 0 ≤ bt s i ∧ bt s i < 256 := by
  unfold bt
  have := (s.data[i]?.getD 0).toNat_lt
  omega

theorem bt_at (s : ByteArray) (i : Nat) (h : i < s.size) : ((s[i]'h).toNat : Int) = bt s i := by
  unfold bt
  have h' : i < s.data.size := h
  rw [Array.getElem?_eq_getElem h']
  rfl

/-- The first r bytes of word j. -/
def sw (s : ByteArray) (j : Nat) : Nat → Int
  | 0 => 0
  | r + 1 => sw s j r + bt s (8 * j + r) * 256 ^ r

theorem sw_bd (s : ByteArray) (j r : Nat) : 0 ≤ sw s j r ∧ sw s j r < 256 ^ r := by
  induction r with
  | zero => simp [sw]
  | succ r ih =>
    have hb := bt_bd s (8 * j + r)
    have hp : (0 : Int) < 256 ^ r := Int.pow_pos (by decide)
    have h1 : bt s (8 * j + r) * 256 ^ r ≤ 255 * 256 ^ r := Int.mul_le_mul_of_nonneg_right (by omega) (by omega)
    have h2 : 0 ≤ bt s (8 * j + r) * 256 ^ r := Int.mul_nonneg hb.1 (by omega)
    have h3 : (256 : Int) ^ (r + 1) = 256 * 256 ^ r := by rw [Int.pow_succ, Int.mul_comm]
    simp only [sw]
    omega

theorem swor0 (s : ByteArray) (j i : Nat) (hi : i = 8 * j + 0) : bits BinOp.or IntKind.u64 0 (bt s i) = sw s j 1 := by
  have hb := bt_bd s i
  rw [or_join 8 256 (by decide) ⟨by decide, by decide⟩ ⟨hb.1, by omega⟩ (by decide) (by omega)]
  simp [sw, hi]

theorem swor1 (s : ByteArray) (j i : Nat) (hi : i = 8 * j + 1) : bits BinOp.or IntKind.u64 (sw s j 1) (bt s i * 256) = sw s j 2 := by
  have hb := bt_bd s i
  have hs := sw_bd s j 1
  have e : (256 : Int) ^ 1 = 256 := by decide
  rw [e] at hs
  rw [or_join' 8 256 (by decide) ⟨hs.1, by omega⟩ ⟨by omega, by omega⟩ (by omega) (by omega)]
  show _ = sw s j 1 + bt s (8 * j + 1) * 256 ^ 1
  rw [e, hi]

theorem swor2 (s : ByteArray) (j i : Nat) (hi : i = 8 * j + 2) : bits BinOp.or IntKind.u64 (sw s j 2) (bt s i * 65536) = sw s j 3 := by
  have hb := bt_bd s i
  have hs := sw_bd s j 2
  have e : (256 : Int) ^ 2 = 65536 := by decide
  rw [e] at hs
  rw [or_join' 16 65536 (by decide) ⟨hs.1, by omega⟩ ⟨by omega, by omega⟩ (by omega) (by omega)]
  show _ = sw s j 2 + bt s (8 * j + 2) * 256 ^ 2
  rw [e, hi]

theorem swor3 (s : ByteArray) (j i : Nat) (hi : i = 8 * j + 3) : bits BinOp.or IntKind.u64 (sw s j 3) (bt s i * 16777216) = sw s j 4 := by
  have hb := bt_bd s i
  have hs := sw_bd s j 3
  have e : (256 : Int) ^ 3 = 16777216 := by decide
  rw [e] at hs
  rw [or_join' 24 16777216 (by decide) ⟨hs.1, by omega⟩ ⟨by omega, by omega⟩ (by omega) (by omega)]
  show _ = sw s j 3 + bt s (8 * j + 3) * 256 ^ 3
  rw [e, hi]

theorem swor4 (s : ByteArray) (j i : Nat) (hi : i = 8 * j + 4) : bits BinOp.or IntKind.u64 (sw s j 4) (bt s i * 4294967296) = sw s j 5 := by
  have hb := bt_bd s i
  have hs := sw_bd s j 4
  have e : (256 : Int) ^ 4 = 4294967296 := by decide
  rw [e] at hs
  rw [or_join' 32 4294967296 (by decide) ⟨hs.1, by omega⟩ ⟨by omega, by omega⟩ (by omega) (by omega)]
  show _ = sw s j 4 + bt s (8 * j + 4) * 256 ^ 4
  rw [e, hi]

theorem swor5 (s : ByteArray) (j i : Nat) (hi : i = 8 * j + 5) : bits BinOp.or IntKind.u64 (sw s j 5) (bt s i * 1099511627776) = sw s j 6 := by
  have hb := bt_bd s i
  have hs := sw_bd s j 5
  have e : (256 : Int) ^ 5 = 1099511627776 := by decide
  rw [e] at hs
  rw [or_join' 40 1099511627776 (by decide) ⟨hs.1, by omega⟩ ⟨by omega, by omega⟩ (by omega) (by omega)]
  show _ = sw s j 5 + bt s (8 * j + 5) * 256 ^ 5
  rw [e, hi]

theorem swor6 (s : ByteArray) (j i : Nat) (hi : i = 8 * j + 6) : bits BinOp.or IntKind.u64 (sw s j 6) (bt s i * 281474976710656) = sw s j 7 := by
  have hb := bt_bd s i
  have hs := sw_bd s j 6
  have e : (256 : Int) ^ 6 = 281474976710656 := by decide
  rw [e] at hs
  rw [or_join' 48 281474976710656 (by decide) ⟨hs.1, by omega⟩ ⟨by omega, by omega⟩ (by omega) (by omega)]
  show _ = sw s j 6 + bt s (8 * j + 6) * 256 ^ 6
  rw [e, hi]

theorem swor7 (s : ByteArray) (j i : Nat) (hi : i = 8 * j + 7) : bits BinOp.or IntKind.u64 (sw s j 7) (bt s i * 72057594037927936) = sw s j 8 := by
  have hb := bt_bd s i
  have hs := sw_bd s j 7
  have e : (256 : Int) ^ 7 = 72057594037927936 := by decide
  rw [e] at hs
  rw [or_join' 56 72057594037927936 (by decide) ⟨hs.1, by omega⟩ ⟨by omega, by omega⟩ (by omega) (by omega)]
  show _ = sw s j 7 + bt s (8 * j + 7) * 256 ^ 7
  rw [e, hi]

/-- The number that 32 bytes are. -/
def val (s : ByteArray) : Int := sw s 0 8 + 18446744073709551616 * sw s 1 8 + 340282366920938463463374607431768211456 * sw s 2 8 + 6277101735386680763835789423207666416102355444464034512896 * sw s 3 8

end Go.Proofs.Ytkeocdebfgcnnaa.Ord

/- The contract of the document's Of: bytes, bit by bit, modulo the order. -/
namespace Go.Proofs.Ytkeocdebfgcnnaa.Ord
open Go.RowKit

/-- Bit i of a string. -/
def bit (s : ByteArray) (i : Nat) : Int := bt s (i / 8) / 2 ^ (i % 8) % 2
theorem sub_val {X : Int} (h : ¬ X < Lm) (h1 : X < 2 * Lm) : arr 16 (minusF (d16 X) oF) = arr 16 (d16 (X - Lm)) := by
  have hL := L16
  have hX : S (d16 X) 16 = X := dSL (by have := Lm_pos; omega) (by omega)
  refine arr_congr (S_inj (minusF_dig _ _ 16) (d16_dig _ 16) ?_)
  rw [minus_le (d16_dig X 16) oF_dig (by rw [hX, oF_S]; omega), hX, oF_S, dSL (by omega) (by omega)]

end Go.Proofs.Ytkeocdebfgcnnaa.Ord

/- Bytes and their number: what the document's Of makes of them is that number modulo the order. -/
namespace Go.Proofs.Ytkeocdebfgcnnaa.Ord
open Go.RowKit

/-- The number of the first k bytes. -/
def bv (s : ByteArray) : Nat → Int
  | 0 => 0
  | k + 1 => bv s k + bt s k * 256 ^ k

theorem bt_out (s : ByteArray) (i : Nat) (h : s.size ≤ i) : bt s i = 0 := by
  unfold bt
  have h' : s.data.size ≤ i := h
  rw [Array.getElem?_eq_none h']
  rfl

theorem bv_out (s : ByteArray) : ∀ k, bv s (s.size + k) = bv s s.size
  | 0 => rfl
  | k + 1 => by
    show bv s (s.size + k) + bt s (s.size + k) * 256 ^ (s.size + k) = _
    rw [bt_out s _ (by omega), bv_out s k]
    omega

theorem bv_64 (s : ByteArray) (h : s.size ≤ 64) : bv s 64 = bv s s.size := by
  have := bv_out s (64 - s.size)
  rwa [show s.size + (64 - s.size) = 64 by omega] at this

theorem sw_bv (s : ByteArray) (j : Nat) : ∀ r, bv s (8 * j + r) = bv s (8 * j) + 256 ^ (8 * j) * sw s j r
  | 0 => by simp [sw]
  | r + 1 => by
    have ih := sw_bv s j r
    show bv s (8 * j + r) + bt s (8 * j + r) * 256 ^ (8 * j + r) = bv s (8 * j) + 256 ^ (8 * j) * (sw s j r + bt s (8 * j + r) * 256 ^ r)
    rw [ih, Int.pow_add, Int.mul_add, ← Int.add_assoc]
    congr 1
    rw [Int.mul_left_comm]

theorem Q_bv (s : ByteArray) : ∀ n, Q (fun j => sw s j 8) n = bv s (8 * n)
  | 0 => rfl
  | n + 1 => by
    have ih := Q_bv s n
    have e := sw_bv s n 8
    have e2 : (256 : Int) ^ (8 * n) = 18446744073709551616 ^ n := by rw [Int.pow_mul]; rfl
    rw [show 8 * (n + 1) = 8 * n + 8 by omega, e, e2]
    simp only [Q]
    rw [ih, Int.mul_comm]

theorem sw_wds (s : ByteArray) (n : Nat) : Wds (fun j => sw s j 8) n := fun j _ => by
  have := sw_bd s j 8
  have e : (256 : Int) ^ 8 = 18446744073709551616 := by decide
  rw [e] at this
  exact this

/-- The n bytes of a number. -/
def le (N : Int) (n : Nat) : List Int := (List.range n).map fun i => N / 256 ^ i % 256

theorem bs_size (l : List Int) : (bs l).size = l.length := by simp [bs, ByteArray.size]
theorem bt_bs (l : List Int) (i : Nat) (x : Int) (hl : l[i]? = some x) (h0 : 0 ≤ x) (h1 : x < 256) : bt (bs l) i = x := by
  unfold bt bs
  simp only [List.getElem?_toArray, List.getElem?_map, hl, Option.map_some, Option.getD_some]
  simp only [UInt8.toNat_ofNat']
  omega

end Go.Proofs.Ytkeocdebfgcnnaa.Ord


/- The product of two numbers of 16 digits, row by row. -/
namespace Go.Proofs.Ytkeocdebfgcnnaa.Ord
open Go.RowKit

/-- Of row i the first k products. -/
def rw1 (a b : Nat → Int) (i k : Nat) : Nat → Int := fun j => if i ≤ j ∧ j < i + k then a i * b (j - i) else 0
/-- The first i rows. -/
def mp (a b : Nat → Int) : Nat → Nat → Int
  | 0, _ => 0
  | i + 1, j => mp a b i j + rw1 a b i 16 j
/-- i rows, and of the next one k products. -/
def mq (a b : Nat → Int) (i k : Nat) : Nat → Int := fun j => mp a b i j + rw1 a b i k j

theorem S_add' (f g : Nat → Int) : ∀ n, S (fun i => f i + g i) n = S f n + S g n
  | 0 => rfl
  | n + 1 => by
    have ih := S_add' f g n
    simp only [S]
    rw [ih, Int.add_mul]
    omega

theorem S_one (m : Nat) (v : Int) : ∀ n, S (fun j => if j = m then v else 0) n = if m < n then v * 65536 ^ m else 0
  | 0 => by simp [S]
  | n + 1 => by
    have ih := S_one m v n
    simp only [S]
    rw [ih]
    by_cases h1 : m < n
    · rw [if_pos h1, if_neg (show ¬ n = m by omega), if_pos (show m < n + 1 by omega)]
      simp
    · rw [if_neg h1]
      by_cases h2 : n = m
      · subst h2
        rw [if_pos rfl, if_pos (by omega)]
        simp
      · rw [if_neg h2, if_neg (show ¬ m < n + 1 by omega)]
        simp

theorem rw1_next (a b : Nat → Int) (i k j : Nat) : rw1 a b i (k + 1) j = rw1 a b i k j + if j = i + k then a i * b k else 0 := by
  unfold rw1
  by_cases h1 : j = i + k
  · subst h1
    rw [if_pos (by omega), if_neg (by omega), if_pos rfl, show i + k - i = k by omega]
    omega
  · rw [if_neg h1]
    by_cases h2 : i ≤ j ∧ j < i + k
    · rw [if_pos h2, if_pos (by omega)]
      omega
    · rw [if_neg h2, if_neg (by omega)]
      omega

theorem rw1_S (a b : Nat → Int) (i : Nat) : ∀ k, i + k ≤ 32 → S (rw1 a b i k) 32 = a i * 65536 ^ i * S b k
  | 0, _ => by
    rw [S_congr (g := fun _ => 0) fun j _ => by unfold rw1; rw [if_neg (by omega)], S_zero]
    simp [S]
  | k + 1, h => by
    have ih := rw1_S a b i k (by omega)
    rw [S_congr fun j _ => rw1_next a b i k j, S_add', ih, S_one, if_pos (by omega)]
    simp only [S]
    rw [Int.pow_add, Int.mul_add]
    congr 1
    rw [Int.mul_assoc, Int.mul_assoc, Int.mul_left_comm (65536 ^ i)]

theorem mp_S (a b : Nat → Int) : ∀ i, i ≤ 16 → S (mp a b i) 32 = S a i * S b 16
  | 0, _ => by
    show S (fun _ => 0) 32 = _
    rw [S_zero]
    simp [S]
  | i + 1, h => by
    have ih := mp_S a b i (by omega)
    have e : S (mp a b (i + 1)) 32 = S (fun j => mp a b i j + rw1 a b i 16 j) 32 := rfl
    rw [e, S_add', ih, rw1_S a b i 16 (by omega)]
    simp only [S]
    rw [Int.add_mul]

theorem dmul {x y : Int} (hx : 0 ≤ x ∧ x < 65536) (hy : 0 ≤ y ∧ y < 65536) : 0 ≤ x * y ∧ x * y ≤ 4294836225 := by
  refine ⟨Int.mul_nonneg hx.1 hy.1, ?_⟩
  have h1 : x * y ≤ 65535 * y := Int.mul_le_mul_of_nonneg_right (by omega) hy.1
  omega

theorem rw1_bd {a b : Nat → Int} (ha : Dig a 16) (hb : Dig b 16) {i k : Nat} (hi : i < 16) (hk : k ≤ 16) (j : Nat) : 0 ≤ rw1 a b i k j ∧ rw1 a b i k j ≤ 4294836225 := by
  unfold rw1
  by_cases h : i ≤ j ∧ j < i + k
  · rw [if_pos h]
    exact dmul (ha i hi) (hb (j - i) (by omega))
  · rw [if_neg h]
    omega

theorem mp_bd {a b : Nat → Int} (ha : Dig a 16) (hb : Dig b 16) (j : Nat) : ∀ i, i ≤ 16 → 0 ≤ mp a b i j ∧ mp a b i j ≤ 4294836225 * i
  | 0, _ => by simp [mp]
  | i + 1, h => by
    have ih := mp_bd ha hb j i (by omega)
    have h2 := rw1_bd ha hb (i := i) (k := 16) (by omega) (by omega) j
    simp only [mp]
    omega

theorem mp_48 {a b : Nat → Int} (ha : Dig a 16) (hb : Dig b 16) : B48 (mp a b 16) := ⟨fun j _ => by
  have := mp_bd ha hb j 16 (by omega)
  omega⟩

theorem mq_zero (a b : Nat → Int) (i j : Nat) : mq a b i 0 j = mp a b i j := by
  unfold mq rw1
  rw [if_neg (by omega)]
  omega
theorem mq_at (a b : Nat → Int) (i k : Nat) : mq a b i k (i + k) = mp a b i (i + k) := by
  unfold mq rw1
  rw [if_neg (by omega)]
  omega
theorem mq_next (a b : Nat → Int) (i k j : Nat) : upd (mq a b i k) (i + k) (mp a b i (i + k) + a i * b k) j = mq a b i (k + 1) j := by
  unfold upd
  by_cases h : j = i + k
  · subst h
    rw [if_pos rfl]
    unfold mq
    rw [rw1_next, if_pos rfl]
    unfold rw1
    rw [if_neg (by omega)]
    omega
  · rw [if_neg h]
    unfold mq
    rw [rw1_next, if_neg h]
    omega

end Go.Proofs.Ytkeocdebfgcnnaa.Ord


/- Bytes of a string in memory of their own; the contract of doubleOf. -/
namespace Go.Proofs.Ytkeocdebfgcnnaa.Ord
open Go.RowKit

/-- Block g holds the bytes f 0 .. f (n - 1), and may be written. -/
structure BC (W : World) (g : Nat) (f : Nat → Int) (n : Nat) : Prop where
  lt : g < W.heap.size
  c : ∀ i, i < n → W.cell? ⟨g, i, none⟩ = some (.int .u8 (f i))
  fz : ∀ i, i < n → W.frozen? ⟨g, i, none⟩ = false

theorem BC.keep {W W' : World} {g n : Nat} {f : Nat → Int} (h : BC W g f n) (hb : Below W.heap.size W W') : BC W' g f n where
  lt := Nat.lt_of_lt_of_le h.lt hb.size
  c := fun i hi => by
    rw [← h.c i hi]
    unfold World.cell?
    rw [hb.block g h.lt]
  fz := fun i hi => by
    rw [← h.fz i hi]
    unfold World.frozen?
    rw [hb.block g h.lt]

theorem BC.alloc {W : World} {g n : Nat} {f : Nat → Int} (h : BC W g f n) (o : Obj) : BC (W.alloc o) g f n := h.keep (new_below W o)

theorem heap_setCell_size (W : World) (a : Addr) (v : Value) : (W.setCell a v).heap.size = W.heap.size := by
  simp

theorem BC.set {W : World} {g n : Nat} {f : Nat → Int} (h : BC W g f n) {k : Nat} (hk : k < n) (v : Int) : BC (W.setCell ⟨g, k, none⟩ (.int .u8 v)) g (upd f k v) n where
  lt := by rw [heap_setCell_size]; exact h.lt
  c := fun i hi => by
    by_cases e : i = k
    · subst e
      rw [World.cell?_setCell_same _ _ _ (h.c i hk)]
      simp [upd]
    · rw [World.cell?_setCell_other _ _ _ _ (by simp <;> omega), h.c i hi]
      simp [upd, e]
  fz := fun i hi => by
    rw [World.frozen?_setCell]
    exact h.fz i hi

theorem BC.other {W : World} {g n : Nat} {f : Nat → Int} (h : BC W g f n) {a : Addr} (ha : g ≠ a.block) (v : Value) : BC (W.setCell a v) g f n where
  lt := by rw [heap_setCell_size]; exact h.lt
  c := fun i hi => by
    rw [World.cell?_setCell_other _ _ _ _ (by intro e; rw [e] at ha; exact ha rfl), h.c i hi]
  fz := fun i hi => by
    rw [World.frozen?_setCell]
    exact h.fz i hi

theorem BC.drew {W : World} {g n : Nat} {f : Nat → Int} (h : BC W g f n) : BC W.drew g f n := ⟨h.lt, h.c, h.fz⟩
theorem BC.congr {W : World} {g n : Nat} {f f' : Nat → Int} (h : BC W g f n) (e : ∀ i, i < n → f i = f' i) : BC W g f' n := ⟨h.lt, fun i hi => by rw [h.c i hi, e i hi], h.fz⟩

theorem row_frozen (w : World) (g j : Nat) (cs : Array Value) (t : TypeId) (hg : w.heap[g]? = some (.cells cs t (cs.size, cs.size + 1))) (hj : j < cs.size) : w.frozen? ⟨g, j, none⟩ = false := by
  unfold World.frozen?
  rw [hg]
  simp
  omega

/-- A string's bytes in memory of their own. -/
theorem conv_str (W : World) (s : ByteArray) : ∃ (cap : Nat) (W1 : World), (convert 9 63 (.string s)).run Try.prog W = .ok (.slice (some ⟨W.heap.size, 0, none⟩) s.size cap) W1 ∧ BC W1 W.heap.size (bt s) s.size ∧ Below W.heap.size W W1 := by
  have h := run_bytes_of_string (P := Try.prog) W 9 63 5 s Try.underlying9 Try.underlying63 Try.underlying5
  generalize grownCap W s.size 0 5 = cap at h
  refine ⟨cap, _, h, ?_, ((Below.refl _ _).drew).alloc (Nat.le_refl _) _⟩
  have hg : (W.drew.alloc (.cells (bytesRow s cap) 5 ((bytesRow s cap).size, (bytesRow s cap).size + 1))).heap[W.heap.size]? = some (.cells (bytesRow s cap) 5 ((bytesRow s cap).size, (bytesRow s cap).size + 1)) := heap_alloc_new W.drew _
  have hsz : s.size ≤ (bytesRow s cap).size := by
    simp [bytesRow]
  refine ⟨by simp, fun i hi => ?_, fun i hi => row_frozen _ _ _ _ _ hg (by omega)⟩
  rw [cell_of_row _ _ _ _ _ _ hg]
  have hi' : i < s.data.size := hi
  unfold bytesRow bt
  rw [Array.getElem?_append_left (by simpa using hi'), Array.getElem?_map, Array.getElem?_eq_getElem hi']
  rfl

set_option maxRecDepth 100000 in
/-- Bytes in memory as a string. -/
theorem conv_back {W : World} {g n : Nat} {f : Nat → Int} (h : BC W g f n) (cap : Nat) (hf : ∀ i, i < n → 0 ≤ f i ∧ f i < 256) :
    (convert 63 9 (.slice (some ⟨g, 0, none⟩) n cap)).run Try.prog W = .ok (.string (bs ((List.range n).map f))) W := by
  have hl : ((List.range n).map fun i => UInt8.ofNat (f i).toNat).length = n := by simp
  have h2 := run_convert_bytes_back (P := Try.prog) W 63 9 5 ⟨g, 0, none⟩ cap ((List.range n).map fun i => UInt8.ofNat (f i).toNat) Try.underlying63 Try.underlying5 Try.underlying9 (fun j hj => by
    rw [hl] at hj
    have hadd : (⟨g, 0, none⟩ : Addr).add j = ⟨g, j, none⟩ := by unfold Addr.add; split <;> simp_all
    rw [hadd, h.c j hj]
    have := hf j hj
    simp
    omega)
  rw [hl] at h2
  rw [h2]
  unfold bs
  congr 3
  simp [List.map_map]

/-- Of the words the first k bytes. -/
def swk (s : ByteArray) (k : Nat) : Nat → Int := fun j => sw s j (min (k - 8 * j) 8)

theorem swk_at (s : ByteArray) (k : Nat) : swk s k (k / 8) = sw s (k / 8) (k % 8) := by
  unfold swk
  congr 1
  omega

theorem swk_next (s : ByteArray) (k : Nat) (i : Nat) : upd (swk s k) (k / 8) (sw s (k / 8) (k % 8 + 1)) i = swk s (k + 1) i := by
  unfold upd swk
  by_cases h : i = k / 8
  · subst h
    rw [if_pos rfl]
    congr 1
    omega
  · rw [if_neg h]
    congr 1
    omega

theorem sw_stop (s : ByteArray) (j r : Nat) (h : s.size ≤ 8 * j + r) : ∀ d, sw s j (r + d) = sw s j r
  | 0 => rfl
  | d + 1 => by
    show sw s j (r + d) + bt s (8 * j + (r + d)) * 256 ^ (r + d) = _
    rw [bt_out s _ (by omega), sw_stop s j r h d]
    omega

theorem swk_end (s : ByteArray) (j : Nat) : swk s s.size j = sw s j 8 := by
  unfold swk
  by_cases h : s.size ≤ 8 * j + 8
  · have e := sw_stop s j (min (s.size - 8 * j) 8) (by omega) (8 - min (s.size - 8 * j) 8)
    rw [← e]
    congr 1
    omega
  · congr 1
    omega

set_option maxRecDepth 100000 in
set_option maxHeartbeats 4000000 in
theorem dbl_any (s : ByteArray) (g cap : Nat) (w : World) (hs : s.size ≤ 64) (hB : BC w g (bt s) s.size) :
    Calls Try.prog 55 #[.slice (some ⟨g, 0, none⟩) s.size cap] w fun r w' => r = .returned (.agg (arr 8 fun j => sw s j 8)) ∧ Below w.heap.size w w' := by
  have hgl := hB.lt
  go_enter Try.func55, Try.ntmps55
  go_wp2
  rw [show #[Value.int IntKind.u64 0, Value.int IntKind.u64 0, Value.int IntKind.u64 0, Value.int IntKind.u64 0, Value.int IntKind.u64 0, Value.int IntKind.u64 0, Value.int IntKind.u64 0, Value.int IntKind.u64 0] = arr 8 (fun _ => 0) from rfl]
  have R1 : Row ((w.alloc (.cells (arr 8 fun _ => 0) 80)).alloc (.cells (arr 8 fun _ => 0) 80)) w.heap.size 80 8 (fun _ => 0) := (Row.new w 80 8 _).alloc _
  have R2 : Row ((w.alloc (.cells (arr 8 fun _ => 0) 80)).alloc (.cells (arr 8 fun _ => 0) 80)) (w.heap.size + 1) 80 8 (fun _ => 0) := Row.new' _ 80 8 _ (by simp)
  have B : BC ((w.alloc (.cells (arr 8 fun _ => 0) 80)).alloc (.cells (arr 8 fun _ => 0) 80)) g (bt s) s.size := (hB.alloc _).alloc _
  have O : Below w.heap.size w ((w.alloc (.cells (arr 8 fun _ => 0) 80)).alloc (.cells (arr 8 fun _ => 0) 80)) := ((Below.refl _ _).alloc (Nat.le_refl _) _).alloc (by simp) _
  generalize (w.alloc (.cells (arr 8 fun _ => 0) 80)).alloc (.cells (arr 8 fun _ => 0) 80) = W at R1 R2 B O ⊢
  clear hB
  go_loopw [8] (fun x wr => ∃ k : Nat, k ≤ s.size ∧ x = .int .i64 k ∧ Row wr w.heap.size 80 8 (fun _ => 0) ∧ Row wr (w.heap.size + 1) 80 8 (swk s k) ∧ BC wr g (bt s) s.size ∧ Below w.heap.size w wr) (fun x _ => s.size - (intOf x).toNat)
  case atStart => exact ⟨0, by omega, rfl, R1, R2.congr (fun i _ => by unfold swk; rw [show min (0 - 8 * i) 8 = 0 by omega]; rfl), B, O⟩
  case round =>
    clear R1 R2 B O
    obtain ⟨k, hk, rfl, R1, R2, B, O⟩ := hrel
    by_cases hlt : k < s.size
    · have c := B.c k hlt
      have d := R2.cell (i := k / 8) (by omega)
      have e := R2.free (k / 8)
      have b0 := bt_bd s k
      obtain ⟨b0, b1⟩ := b0
      have i1 : (0 : Int) ≤ (k : Int) := by omega
      have i2 : (k : Int) < (s.size : Int) := by omega
      have i3 : (0 : Int) ≤ (k : Int) / 8 := by omega
      have i4 : (k : Int) / 8 < 8 := by omega
      have i5 : ((k : Int) / 8).toNat = k / 8 := by omega
      rcases (show k % 8 = 0 ∨ k % 8 = 1 ∨ k % 8 = 2 ∨ k % 8 = 3 ∨ k % 8 = 4 ∨ k % 8 = 5 ∨ k % 8 = 6 ∨ k % 8 = 7 by omega) with h8 | h8 | h8 | h8 | h8 | h8 | h8 | h8
      · have a3 : (k : Int) % 8 = 0 := by omega
        have hor : bits BinOp.or IntKind.u64 (swk s k (k / 8)) (bt s k * 1) = sw s (k / 8) 1 := by
          rw [swk_at, h8]
          simp only [Int.mul_one]
          exact swor0 s (k / 8) k (by omega)
        rw [Int.mul_one] at hor
        have RR := hide (R2.set (k / 8) (sw s (k / 8) 1))
        have R1' := hide (R1.other (a := ⟨w.heap.size + 1, k / 8, none⟩) (by simp) (.int .u64 (sw s (k / 8) 1)))
        have B' := hide (B.other (a := ⟨w.heap.size + 1, k / 8, none⟩) (by simp; omega) (.int .u64 (sw s (k / 8) 1)))
        have O' := hide (O.setCell (p := ⟨w.heap.size + 1, k / 8, none⟩) (by simp) (.int .u64 (sw s (k / 8) 1)))
        have HN := hide (fun i => swk_next s k i)
        rw [h8] at HN
        clear R1 R2 B O
        go_wp2_with fail
        go_region
        go_wp2
        exact ⟨⟨k + 1, by omega, by go_num, rowD R1'.out, rowD (RR.out.congr (fun i _ => HN.out i)), B'.out.drew, O'.out.drew⟩, by simp [intOf]; omega⟩
      · have a3 : (k : Int) % 8 = 1 := by omega
        have hor : bits BinOp.or IntKind.u64 (swk s k (k / 8)) (bt s k * 256) = sw s (k / 8) 2 := by
          rw [swk_at, h8]
          exact swor1 s (k / 8) k (by omega)
        have RR := hide (R2.set (k / 8) (sw s (k / 8) 2))
        have R1' := hide (R1.other (a := ⟨w.heap.size + 1, k / 8, none⟩) (by simp) (.int .u64 (sw s (k / 8) 2)))
        have B' := hide (B.other (a := ⟨w.heap.size + 1, k / 8, none⟩) (by simp; omega) (.int .u64 (sw s (k / 8) 2)))
        have O' := hide (O.setCell (p := ⟨w.heap.size + 1, k / 8, none⟩) (by simp) (.int .u64 (sw s (k / 8) 2)))
        have HN := hide (fun i => swk_next s k i)
        rw [h8] at HN
        clear R1 R2 B O
        go_wp2_with fail
        go_region
        go_wp2
        exact ⟨⟨k + 1, by omega, by go_num, rowD R1'.out, rowD (RR.out.congr (fun i _ => HN.out i)), B'.out.drew, O'.out.drew⟩, by simp [intOf]; omega⟩
      · have a3 : (k : Int) % 8 = 2 := by omega
        have hor : bits BinOp.or IntKind.u64 (swk s k (k / 8)) (bt s k * 65536) = sw s (k / 8) 3 := by
          rw [swk_at, h8]
          exact swor2 s (k / 8) k (by omega)
        have RR := hide (R2.set (k / 8) (sw s (k / 8) 3))
        have R1' := hide (R1.other (a := ⟨w.heap.size + 1, k / 8, none⟩) (by simp) (.int .u64 (sw s (k / 8) 3)))
        have B' := hide (B.other (a := ⟨w.heap.size + 1, k / 8, none⟩) (by simp; omega) (.int .u64 (sw s (k / 8) 3)))
        have O' := hide (O.setCell (p := ⟨w.heap.size + 1, k / 8, none⟩) (by simp) (.int .u64 (sw s (k / 8) 3)))
        have HN := hide (fun i => swk_next s k i)
        rw [h8] at HN
        clear R1 R2 B O
        go_wp2_with fail
        go_region
        go_wp2
        exact ⟨⟨k + 1, by omega, by go_num, rowD R1'.out, rowD (RR.out.congr (fun i _ => HN.out i)), B'.out.drew, O'.out.drew⟩, by simp [intOf]; omega⟩
      · have a3 : (k : Int) % 8 = 3 := by omega
        have hor : bits BinOp.or IntKind.u64 (swk s k (k / 8)) (bt s k * 16777216) = sw s (k / 8) 4 := by
          rw [swk_at, h8]
          exact swor3 s (k / 8) k (by omega)
        have RR := hide (R2.set (k / 8) (sw s (k / 8) 4))
        have R1' := hide (R1.other (a := ⟨w.heap.size + 1, k / 8, none⟩) (by simp) (.int .u64 (sw s (k / 8) 4)))
        have B' := hide (B.other (a := ⟨w.heap.size + 1, k / 8, none⟩) (by simp; omega) (.int .u64 (sw s (k / 8) 4)))
        have O' := hide (O.setCell (p := ⟨w.heap.size + 1, k / 8, none⟩) (by simp) (.int .u64 (sw s (k / 8) 4)))
        have HN := hide (fun i => swk_next s k i)
        rw [h8] at HN
        clear R1 R2 B O
        go_wp2_with fail
        go_region
        go_wp2
        exact ⟨⟨k + 1, by omega, by go_num, rowD R1'.out, rowD (RR.out.congr (fun i _ => HN.out i)), B'.out.drew, O'.out.drew⟩, by simp [intOf]; omega⟩
      · have a3 : (k : Int) % 8 = 4 := by omega
        have hor : bits BinOp.or IntKind.u64 (swk s k (k / 8)) (bt s k * 4294967296) = sw s (k / 8) 5 := by
          rw [swk_at, h8]
          exact swor4 s (k / 8) k (by omega)
        have RR := hide (R2.set (k / 8) (sw s (k / 8) 5))
        have R1' := hide (R1.other (a := ⟨w.heap.size + 1, k / 8, none⟩) (by simp) (.int .u64 (sw s (k / 8) 5)))
        have B' := hide (B.other (a := ⟨w.heap.size + 1, k / 8, none⟩) (by simp; omega) (.int .u64 (sw s (k / 8) 5)))
        have O' := hide (O.setCell (p := ⟨w.heap.size + 1, k / 8, none⟩) (by simp) (.int .u64 (sw s (k / 8) 5)))
        have HN := hide (fun i => swk_next s k i)
        rw [h8] at HN
        clear R1 R2 B O
        go_wp2_with fail
        go_region
        go_wp2
        exact ⟨⟨k + 1, by omega, by go_num, rowD R1'.out, rowD (RR.out.congr (fun i _ => HN.out i)), B'.out.drew, O'.out.drew⟩, by simp [intOf]; omega⟩
      · have a3 : (k : Int) % 8 = 5 := by omega
        have hor : bits BinOp.or IntKind.u64 (swk s k (k / 8)) (bt s k * 1099511627776) = sw s (k / 8) 6 := by
          rw [swk_at, h8]
          exact swor5 s (k / 8) k (by omega)
        have RR := hide (R2.set (k / 8) (sw s (k / 8) 6))
        have R1' := hide (R1.other (a := ⟨w.heap.size + 1, k / 8, none⟩) (by simp) (.int .u64 (sw s (k / 8) 6)))
        have B' := hide (B.other (a := ⟨w.heap.size + 1, k / 8, none⟩) (by simp; omega) (.int .u64 (sw s (k / 8) 6)))
        have O' := hide (O.setCell (p := ⟨w.heap.size + 1, k / 8, none⟩) (by simp) (.int .u64 (sw s (k / 8) 6)))
        have HN := hide (fun i => swk_next s k i)
        rw [h8] at HN
        clear R1 R2 B O
        go_wp2_with fail
        go_region
        go_wp2
        exact ⟨⟨k + 1, by omega, by go_num, rowD R1'.out, rowD (RR.out.congr (fun i _ => HN.out i)), B'.out.drew, O'.out.drew⟩, by simp [intOf]; omega⟩
      · have a3 : (k : Int) % 8 = 6 := by omega
        have hor : bits BinOp.or IntKind.u64 (swk s k (k / 8)) (bt s k * 281474976710656) = sw s (k / 8) 7 := by
          rw [swk_at, h8]
          exact swor6 s (k / 8) k (by omega)
        have RR := hide (R2.set (k / 8) (sw s (k / 8) 7))
        have R1' := hide (R1.other (a := ⟨w.heap.size + 1, k / 8, none⟩) (by simp) (.int .u64 (sw s (k / 8) 7)))
        have B' := hide (B.other (a := ⟨w.heap.size + 1, k / 8, none⟩) (by simp; omega) (.int .u64 (sw s (k / 8) 7)))
        have O' := hide (O.setCell (p := ⟨w.heap.size + 1, k / 8, none⟩) (by simp) (.int .u64 (sw s (k / 8) 7)))
        have HN := hide (fun i => swk_next s k i)
        rw [h8] at HN
        clear R1 R2 B O
        go_wp2_with fail
        go_region
        go_wp2
        exact ⟨⟨k + 1, by omega, by go_num, rowD R1'.out, rowD (RR.out.congr (fun i _ => HN.out i)), B'.out.drew, O'.out.drew⟩, by simp [intOf]; omega⟩
      · have a3 : (k : Int) % 8 = 7 := by omega
        have hor : bits BinOp.or IntKind.u64 (swk s k (k / 8)) (bt s k * 72057594037927936) = sw s (k / 8) 8 := by
          rw [swk_at, h8]
          exact swor7 s (k / 8) k (by omega)
        have RR := hide (R2.set (k / 8) (sw s (k / 8) 8))
        have R1' := hide (R1.other (a := ⟨w.heap.size + 1, k / 8, none⟩) (by simp) (.int .u64 (sw s (k / 8) 8)))
        have B' := hide (B.other (a := ⟨w.heap.size + 1, k / 8, none⟩) (by simp; omega) (.int .u64 (sw s (k / 8) 8)))
        have O' := hide (O.setCell (p := ⟨w.heap.size + 1, k / 8, none⟩) (by simp) (.int .u64 (sw s (k / 8) 8)))
        have HN := hide (fun i => swk_next s k i)
        rw [h8] at HN
        clear R1 R2 B O
        go_wp2_with fail
        go_region
        go_wp2
        exact ⟨⟨k + 1, by omega, by go_num, rowD R1'.out, rowD (RR.out.congr (fun i _ => HN.out i)), B'.out.drew, O'.out.drew⟩, by simp [intOf]; omega⟩

    · have hk' : k = s.size := by omega
      subst hk'
      have HR := hide (R2.congr (f' := fun j => sw s j 8) (fun i _ => swk_end s i))
      have RR := hide (R1.setAll (fun j => sw s j 8))
      have OO := hide (below_setCells (g := w.heap.size) (Nat.le_refl _) (arr 8 fun j => sw s j 8).toList 0 O)
      clear R2 O B
      generalize hff : (fun j => sw s j 8) = f at HR RR OO
      have HF := hide hff
      clear hff
      go_wp2_with (first | (refine wpList_load_row rfl 80 _ rfl (w.heap.size + 1) rfl 80 (arr 8 f) (0, 0) _ HR.out Try.underlying80 rfl (info80 _) ?_) | (refine wpList_store_mid rfl 80 _ _ rfl w.heap.size 0 (arr 8 f) rfl rfl ?tho (info80 _) (arr_one _ _) ?_))
      case tho => rw [arr_size]; exact R1.there
      exact bodyPost_ret (v := .agg (arr 8 f)) (results_cell_row Try.results55 _ _ w.heap.size 80 (arr 8 f) (0, 0) _ rfl RR.out Try.underlying80 rfl (info80 _)) rfl ⟨by rw [HF.out], OO.out⟩

end Go.Proofs.Ytkeocdebfgcnnaa.Ord

/- The contract of the document's Parts: 32 bytes as 16 digits. -/
namespace Go.Proofs.Ytkeocdebfgcnnaa.Ord
open Go.RowKit

/-- Digit i when k bytes have been read. -/
def pt (s : ByteArray) (k : Nat) : Nat → Int := fun i => (if 2 * i < k then bt s (2 * i) else 0) + (if 2 * i + 1 < k then bt s (2 * i + 1) * 256 else 0)

theorem ptor0 (s : ByteArray) (i : Nat) : bits BinOp.or IntKind.u64 0 (bt s i) = bt s i := by
  have hb := bt_bd s i
  rw [or_join 8 256 (by decide) ⟨by decide, by decide⟩ ⟨hb.1, by omega⟩ (by decide) (by omega)]
  omega
theorem ptor1 (s : ByteArray) (i j : Nat) : bits BinOp.or IntKind.u64 (bt s i) (bt s j * 256) = bt s i + bt s j * 256 := by
  have hb := bt_bd s i
  have hc := bt_bd s j
  exact or_join' 8 256 (by decide) ⟨hb.1, by omega⟩ ⟨by omega, by omega⟩ (by omega) (by omega)

theorem pt_dig (s : ByteArray) (k : Nat) : Dig (pt s k) 16 := fun i _ => by
  have hb := bt_bd s (2 * i)
  have hc := bt_bd s (2 * i + 1)
  unfold pt
  split <;> split <;> omega

theorem pt_even (s : ByteArray) (j i : Nat) : upd (pt s (2 * j)) j (bt s (2 * j)) i = pt s (2 * j + 1) i := by
  unfold upd pt
  by_cases h : i = j
  · subst h
    simp
  · rw [if_neg h]
    congr 1
    · by_cases h2 : 2 * i < 2 * j
      · rw [if_pos h2, if_pos (by omega)]
      · rw [if_neg h2, if_neg (by omega)]
    · by_cases h2 : 2 * i + 1 < 2 * j
      · rw [if_pos h2, if_pos (by omega)]
      · rw [if_neg h2, if_neg (by omega)]

theorem pt_odd (s : ByteArray) (j i : Nat) : upd (pt s (2 * j + 1)) j (bt s (2 * j) + bt s (2 * j + 1) * 256) i = pt s (2 * j + 1 + 1) i := by
  unfold upd pt
  by_cases h : i = j
  · subst h
    simp
    intro h
    omega
  · rw [if_neg h]
    congr 1
    · by_cases h2 : 2 * i < 2 * j + 1
      · rw [if_pos h2, if_pos (by omega)]
      · rw [if_neg h2, if_neg (by omega)]
    · by_cases h2 : 2 * i + 1 < 2 * j + 1
      · rw [if_pos h2, if_pos (by omega)]
      · rw [if_neg h2, if_neg (by omega)]

theorem pt_S (s : ByteArray) : S (pt s 32) 16 = val s := by
  simp [S, pt, val, sw]
  omega

set_option maxRecDepth 100000 in
set_option maxHeartbeats 8000000 in
theorem parts_any (s : ByteArray) (w : World) (hs : s.size = 32) :
    Calls Try.prog 70 #[.string s] w fun r w' => r = .returned (.agg (arr 16 (pt s 32))) ∧ Below w.heap.size w w' := by
  go_enter Try.func70, Try.ntmps70
  go_wp2
  rw [show #[Value.int IntKind.u64 0, Value.int IntKind.u64 0, Value.int IntKind.u64 0, Value.int IntKind.u64 0, Value.int IntKind.u64 0, Value.int IntKind.u64 0, Value.int IntKind.u64 0, Value.int IntKind.u64 0, Value.int IntKind.u64 0, Value.int IntKind.u64 0, Value.int IntKind.u64 0, Value.int IntKind.u64 0, Value.int IntKind.u64 0, Value.int IntKind.u64 0, Value.int IntKind.u64 0, Value.int IntKind.u64 0] = arr 16 (fun _ => 0) from rfl]
  have R1 : Row ((w.alloc (.cells (arr 16 fun _ => 0) 33)).alloc (.cells (arr 16 fun _ => 0) 33)) w.heap.size 33 16 (fun _ => 0) := (Row.new w 33 16 _).alloc _
  have R2 : Row ((w.alloc (.cells (arr 16 fun _ => 0) 33)).alloc (.cells (arr 16 fun _ => 0) 33)) (w.heap.size + 1) 33 16 (pt s 0) := (Row.new' _ 33 16 _ (by simp)).congr (fun i _ => by simp [pt])
  have O : Below w.heap.size w ((w.alloc (.cells (arr 16 fun _ => 0) 33)).alloc (.cells (arr 16 fun _ => 0) 33)) := ((Below.refl _ _).alloc (Nat.le_refl _) _).alloc (by simp) _
  generalize (w.alloc (.cells (arr 16 fun _ => 0) 33)).alloc (.cells (arr 16 fun _ => 0) 33) = W at R1 R2 O ⊢
  go_loopw [4] (fun i wr => ∃ k : Nat, k ≤ 32 ∧ i = .int .i64 k ∧ Row wr w.heap.size 33 16 (fun _ => 0) ∧ Row wr (w.heap.size + 1) 33 16 (pt s k) ∧ Below w.heap.size w wr) (fun i _ => 32 - (intOf i).toNat)
  case atStart => exact ⟨0, by omega, rfl, R1, R2, O⟩
  case round =>
    clear R1 R2 O
    obtain ⟨k, hk, rfl, R1, R2, O⟩ := hrel
    by_cases hlt : k < 32
    · have hc : k = 0 ∨ k = 1 ∨ k = 2 ∨ k = 3 ∨ k = 4 ∨ k = 5 ∨ k = 6 ∨ k = 7 ∨ k = 8 ∨ k = 9 ∨ k = 10 ∨ k = 11 ∨ k = 12 ∨ k = 13 ∨ k = 14 ∨ k = 15 ∨ k = 16 ∨ k = 17 ∨ k = 18 ∨ k = 19 ∨ k = 20 ∨ k = 21 ∨ k = 22 ∨ k = 23 ∨ k = 24 ∨ k = 25 ∨ k = 26 ∨ k = 27 ∨ k = 28 ∨ k = 29 ∨ k = 30 ∨ k = 31 := by omega
      clear hlt hk
      rcases hc with rfl | rfl | rfl | rfl | rfl | rfl | rfl | rfl | rfl | rfl | rfl | rfl | rfl | rfl | rfl | rfl | rfl | rfl | rfl | rfl | rfl | rfl | rfl | rfl | rfl | rfl | rfl | rfl | rfl | rfl | rfl | rfl
      · have hb := bt_at s 0 (by omega)
        obtain ⟨p, q⟩ := bt_bd s 0
        have e := ptor0 s 0
        have c := R2.cell (i := 0) (by omega)
        rw [show pt s 0 0 = 0 by simp [pt]] at c
        have f := R2.free 0
        have RR := hide ((R2.set 0 (bt s 0)).congr (fun i _ => pt_even s 0 i))
        have R1' := hide (R1.other (a := ⟨w.heap.size + 1, 0, none⟩) (by simp) (.int .u64 (bt s 0)))
        have O' := hide (O.setCell (p := ⟨w.heap.size + 1, 0, none⟩) (by simp) (.int .u64 (bt s 0)))
        clear R1 R2 O
        go_wp2_with fail
        go_region
        go_wp2
        first | exact ⟨⟨1, by omega, rfl, R1'.out, RR.out, O'.out.drew⟩, by simp [intOf]⟩ | (go_roundw; (case rel => exact ⟨1, by omega, rfl, R1'.out, RR.out, O'.out.drew⟩); (case measure => simp [intOf]))
      · have hb := bt_at s 1 (by omega)
        obtain ⟨p, q⟩ := bt_bd s 1
        have e := ptor1 s 0 1
        have c := R2.cell (i := 0) (by omega)
        rw [show pt s 1 0 = bt s 0 by simp [pt]] at c
        have f := R2.free 0
        have RR := hide ((R2.set 0 (bt s 0 + bt s 1 * 256)).congr (fun i _ => pt_odd s 0 i))
        have R1' := hide (R1.other (a := ⟨w.heap.size + 1, 0, none⟩) (by simp) (.int .u64 (bt s 0 + bt s 1 * 256)))
        have O' := hide (O.setCell (p := ⟨w.heap.size + 1, 0, none⟩) (by simp) (.int .u64 (bt s 0 + bt s 1 * 256)))
        clear R1 R2 O
        go_wp2_with fail
        go_region
        go_wp2
        first | exact ⟨⟨2, by omega, rfl, R1'.out, RR.out, O'.out.drew⟩, by simp [intOf]⟩ | (go_roundw; (case rel => exact ⟨2, by omega, rfl, R1'.out, RR.out, O'.out.drew⟩); (case measure => simp [intOf]))
      · have hb := bt_at s 2 (by omega)
        obtain ⟨p, q⟩ := bt_bd s 2
        have e := ptor0 s 2
        have c := R2.cell (i := 1) (by omega)
        rw [show pt s 2 1 = 0 by simp [pt]] at c
        have f := R2.free 1
        have RR := hide ((R2.set 1 (bt s 2)).congr (fun i _ => pt_even s 1 i))
        have R1' := hide (R1.other (a := ⟨w.heap.size + 1, 1, none⟩) (by simp) (.int .u64 (bt s 2)))
        have O' := hide (O.setCell (p := ⟨w.heap.size + 1, 1, none⟩) (by simp) (.int .u64 (bt s 2)))
        clear R1 R2 O
        go_wp2_with fail
        go_region
        go_wp2
        first | exact ⟨⟨3, by omega, rfl, R1'.out, RR.out, O'.out.drew⟩, by simp [intOf]⟩ | (go_roundw; (case rel => exact ⟨3, by omega, rfl, R1'.out, RR.out, O'.out.drew⟩); (case measure => simp [intOf]))
      · have hb := bt_at s 3 (by omega)
        obtain ⟨p, q⟩ := bt_bd s 3
        have e := ptor1 s 2 3
        have c := R2.cell (i := 1) (by omega)
        rw [show pt s 3 1 = bt s 2 by simp [pt]] at c
        have f := R2.free 1
        have RR := hide ((R2.set 1 (bt s 2 + bt s 3 * 256)).congr (fun i _ => pt_odd s 1 i))
        have R1' := hide (R1.other (a := ⟨w.heap.size + 1, 1, none⟩) (by simp) (.int .u64 (bt s 2 + bt s 3 * 256)))
        have O' := hide (O.setCell (p := ⟨w.heap.size + 1, 1, none⟩) (by simp) (.int .u64 (bt s 2 + bt s 3 * 256)))
        clear R1 R2 O
        go_wp2_with fail
        go_region
        go_wp2
        first | exact ⟨⟨4, by omega, rfl, R1'.out, RR.out, O'.out.drew⟩, by simp [intOf]⟩ | (go_roundw; (case rel => exact ⟨4, by omega, rfl, R1'.out, RR.out, O'.out.drew⟩); (case measure => simp [intOf]))
      · have hb := bt_at s 4 (by omega)
        obtain ⟨p, q⟩ := bt_bd s 4
        have e := ptor0 s 4
        have c := R2.cell (i := 2) (by omega)
        rw [show pt s 4 2 = 0 by simp [pt]] at c
        have f := R2.free 2
        have RR := hide ((R2.set 2 (bt s 4)).congr (fun i _ => pt_even s 2 i))
        have R1' := hide (R1.other (a := ⟨w.heap.size + 1, 2, none⟩) (by simp) (.int .u64 (bt s 4)))
        have O' := hide (O.setCell (p := ⟨w.heap.size + 1, 2, none⟩) (by simp) (.int .u64 (bt s 4)))
        clear R1 R2 O
        go_wp2_with fail
        go_region
        go_wp2
        first | exact ⟨⟨5, by omega, rfl, R1'.out, RR.out, O'.out.drew⟩, by simp [intOf]⟩ | (go_roundw; (case rel => exact ⟨5, by omega, rfl, R1'.out, RR.out, O'.out.drew⟩); (case measure => simp [intOf]))
      · have hb := bt_at s 5 (by omega)
        obtain ⟨p, q⟩ := bt_bd s 5
        have e := ptor1 s 4 5
        have c := R2.cell (i := 2) (by omega)
        rw [show pt s 5 2 = bt s 4 by simp [pt]] at c
        have f := R2.free 2
        have RR := hide ((R2.set 2 (bt s 4 + bt s 5 * 256)).congr (fun i _ => pt_odd s 2 i))
        have R1' := hide (R1.other (a := ⟨w.heap.size + 1, 2, none⟩) (by simp) (.int .u64 (bt s 4 + bt s 5 * 256)))
        have O' := hide (O.setCell (p := ⟨w.heap.size + 1, 2, none⟩) (by simp) (.int .u64 (bt s 4 + bt s 5 * 256)))
        clear R1 R2 O
        go_wp2_with fail
        go_region
        go_wp2
        first | exact ⟨⟨6, by omega, rfl, R1'.out, RR.out, O'.out.drew⟩, by simp [intOf]⟩ | (go_roundw; (case rel => exact ⟨6, by omega, rfl, R1'.out, RR.out, O'.out.drew⟩); (case measure => simp [intOf]))
      · have hb := bt_at s 6 (by omega)
        obtain ⟨p, q⟩ := bt_bd s 6
        have e := ptor0 s 6
        have c := R2.cell (i := 3) (by omega)
        rw [show pt s 6 3 = 0 by simp [pt]] at c
        have f := R2.free 3
        have RR := hide ((R2.set 3 (bt s 6)).congr (fun i _ => pt_even s 3 i))
        have R1' := hide (R1.other (a := ⟨w.heap.size + 1, 3, none⟩) (by simp) (.int .u64 (bt s 6)))
        have O' := hide (O.setCell (p := ⟨w.heap.size + 1, 3, none⟩) (by simp) (.int .u64 (bt s 6)))
        clear R1 R2 O
        go_wp2_with fail
        go_region
        go_wp2
        first | exact ⟨⟨7, by omega, rfl, R1'.out, RR.out, O'.out.drew⟩, by simp [intOf]⟩ | (go_roundw; (case rel => exact ⟨7, by omega, rfl, R1'.out, RR.out, O'.out.drew⟩); (case measure => simp [intOf]))
      · have hb := bt_at s 7 (by omega)
        obtain ⟨p, q⟩ := bt_bd s 7
        have e := ptor1 s 6 7
        have c := R2.cell (i := 3) (by omega)
        rw [show pt s 7 3 = bt s 6 by simp [pt]] at c
        have f := R2.free 3
        have RR := hide ((R2.set 3 (bt s 6 + bt s 7 * 256)).congr (fun i _ => pt_odd s 3 i))
        have R1' := hide (R1.other (a := ⟨w.heap.size + 1, 3, none⟩) (by simp) (.int .u64 (bt s 6 + bt s 7 * 256)))
        have O' := hide (O.setCell (p := ⟨w.heap.size + 1, 3, none⟩) (by simp) (.int .u64 (bt s 6 + bt s 7 * 256)))
        clear R1 R2 O
        go_wp2_with fail
        go_region
        go_wp2
        first | exact ⟨⟨8, by omega, rfl, R1'.out, RR.out, O'.out.drew⟩, by simp [intOf]⟩ | (go_roundw; (case rel => exact ⟨8, by omega, rfl, R1'.out, RR.out, O'.out.drew⟩); (case measure => simp [intOf]))
      · have hb := bt_at s 8 (by omega)
        obtain ⟨p, q⟩ := bt_bd s 8
        have e := ptor0 s 8
        have c := R2.cell (i := 4) (by omega)
        rw [show pt s 8 4 = 0 by simp [pt]] at c
        have f := R2.free 4
        have RR := hide ((R2.set 4 (bt s 8)).congr (fun i _ => pt_even s 4 i))
        have R1' := hide (R1.other (a := ⟨w.heap.size + 1, 4, none⟩) (by simp) (.int .u64 (bt s 8)))
        have O' := hide (O.setCell (p := ⟨w.heap.size + 1, 4, none⟩) (by simp) (.int .u64 (bt s 8)))
        clear R1 R2 O
        go_wp2_with fail
        go_region
        go_wp2
        first | exact ⟨⟨9, by omega, rfl, R1'.out, RR.out, O'.out.drew⟩, by simp [intOf]⟩ | (go_roundw; (case rel => exact ⟨9, by omega, rfl, R1'.out, RR.out, O'.out.drew⟩); (case measure => simp [intOf]))
      · have hb := bt_at s 9 (by omega)
        obtain ⟨p, q⟩ := bt_bd s 9
        have e := ptor1 s 8 9
        have c := R2.cell (i := 4) (by omega)
        rw [show pt s 9 4 = bt s 8 by simp [pt]] at c
        have f := R2.free 4
        have RR := hide ((R2.set 4 (bt s 8 + bt s 9 * 256)).congr (fun i _ => pt_odd s 4 i))
        have R1' := hide (R1.other (a := ⟨w.heap.size + 1, 4, none⟩) (by simp) (.int .u64 (bt s 8 + bt s 9 * 256)))
        have O' := hide (O.setCell (p := ⟨w.heap.size + 1, 4, none⟩) (by simp) (.int .u64 (bt s 8 + bt s 9 * 256)))
        clear R1 R2 O
        go_wp2_with fail
        go_region
        go_wp2
        first | exact ⟨⟨10, by omega, rfl, R1'.out, RR.out, O'.out.drew⟩, by simp [intOf]⟩ | (go_roundw; (case rel => exact ⟨10, by omega, rfl, R1'.out, RR.out, O'.out.drew⟩); (case measure => simp [intOf]))
      · have hb := bt_at s 10 (by omega)
        obtain ⟨p, q⟩ := bt_bd s 10
        have e := ptor0 s 10
        have c := R2.cell (i := 5) (by omega)
        rw [show pt s 10 5 = 0 by simp [pt]] at c
        have f := R2.free 5
        have RR := hide ((R2.set 5 (bt s 10)).congr (fun i _ => pt_even s 5 i))
        have R1' := hide (R1.other (a := ⟨w.heap.size + 1, 5, none⟩) (by simp) (.int .u64 (bt s 10)))
        have O' := hide (O.setCell (p := ⟨w.heap.size + 1, 5, none⟩) (by simp) (.int .u64 (bt s 10)))
        clear R1 R2 O
        go_wp2_with fail
        go_region
        go_wp2
        first | exact ⟨⟨11, by omega, rfl, R1'.out, RR.out, O'.out.drew⟩, by simp [intOf]⟩ | (go_roundw; (case rel => exact ⟨11, by omega, rfl, R1'.out, RR.out, O'.out.drew⟩); (case measure => simp [intOf]))
      · have hb := bt_at s 11 (by omega)
        obtain ⟨p, q⟩ := bt_bd s 11
        have e := ptor1 s 10 11
        have c := R2.cell (i := 5) (by omega)
        rw [show pt s 11 5 = bt s 10 by simp [pt]] at c
        have f := R2.free 5
        have RR := hide ((R2.set 5 (bt s 10 + bt s 11 * 256)).congr (fun i _ => pt_odd s 5 i))
        have R1' := hide (R1.other (a := ⟨w.heap.size + 1, 5, none⟩) (by simp) (.int .u64 (bt s 10 + bt s 11 * 256)))
        have O' := hide (O.setCell (p := ⟨w.heap.size + 1, 5, none⟩) (by simp) (.int .u64 (bt s 10 + bt s 11 * 256)))
        clear R1 R2 O
        go_wp2_with fail
        go_region
        go_wp2
        first | exact ⟨⟨12, by omega, rfl, R1'.out, RR.out, O'.out.drew⟩, by simp [intOf]⟩ | (go_roundw; (case rel => exact ⟨12, by omega, rfl, R1'.out, RR.out, O'.out.drew⟩); (case measure => simp [intOf]))
      · have hb := bt_at s 12 (by omega)
        obtain ⟨p, q⟩ := bt_bd s 12
        have e := ptor0 s 12
        have c := R2.cell (i := 6) (by omega)
        rw [show pt s 12 6 = 0 by simp [pt]] at c
        have f := R2.free 6
        have RR := hide ((R2.set 6 (bt s 12)).congr (fun i _ => pt_even s 6 i))
        have R1' := hide (R1.other (a := ⟨w.heap.size + 1, 6, none⟩) (by simp) (.int .u64 (bt s 12)))
        have O' := hide (O.setCell (p := ⟨w.heap.size + 1, 6, none⟩) (by simp) (.int .u64 (bt s 12)))
        clear R1 R2 O
        go_wp2_with fail
        go_region
        go_wp2
        first | exact ⟨⟨13, by omega, rfl, R1'.out, RR.out, O'.out.drew⟩, by simp [intOf]⟩ | (go_roundw; (case rel => exact ⟨13, by omega, rfl, R1'.out, RR.out, O'.out.drew⟩); (case measure => simp [intOf]))
      · have hb := bt_at s 13 (by omega)
        obtain ⟨p, q⟩ := bt_bd s 13
        have e := ptor1 s 12 13
        have c := R2.cell (i := 6) (by omega)
        rw [show pt s 13 6 = bt s 12 by simp [pt]] at c
        have f := R2.free 6
        have RR := hide ((R2.set 6 (bt s 12 + bt s 13 * 256)).congr (fun i _ => pt_odd s 6 i))
        have R1' := hide (R1.other (a := ⟨w.heap.size + 1, 6, none⟩) (by simp) (.int .u64 (bt s 12 + bt s 13 * 256)))
        have O' := hide (O.setCell (p := ⟨w.heap.size + 1, 6, none⟩) (by simp) (.int .u64 (bt s 12 + bt s 13 * 256)))
        clear R1 R2 O
        go_wp2_with fail
        go_region
        go_wp2
        first | exact ⟨⟨14, by omega, rfl, R1'.out, RR.out, O'.out.drew⟩, by simp [intOf]⟩ | (go_roundw; (case rel => exact ⟨14, by omega, rfl, R1'.out, RR.out, O'.out.drew⟩); (case measure => simp [intOf]))
      · have hb := bt_at s 14 (by omega)
        obtain ⟨p, q⟩ := bt_bd s 14
        have e := ptor0 s 14
        have c := R2.cell (i := 7) (by omega)
        rw [show pt s 14 7 = 0 by simp [pt]] at c
        have f := R2.free 7
        have RR := hide ((R2.set 7 (bt s 14)).congr (fun i _ => pt_even s 7 i))
        have R1' := hide (R1.other (a := ⟨w.heap.size + 1, 7, none⟩) (by simp) (.int .u64 (bt s 14)))
        have O' := hide (O.setCell (p := ⟨w.heap.size + 1, 7, none⟩) (by simp) (.int .u64 (bt s 14)))
        clear R1 R2 O
        go_wp2_with fail
        go_region
        go_wp2
        first | exact ⟨⟨15, by omega, rfl, R1'.out, RR.out, O'.out.drew⟩, by simp [intOf]⟩ | (go_roundw; (case rel => exact ⟨15, by omega, rfl, R1'.out, RR.out, O'.out.drew⟩); (case measure => simp [intOf]))
      · have hb := bt_at s 15 (by omega)
        obtain ⟨p, q⟩ := bt_bd s 15
        have e := ptor1 s 14 15
        have c := R2.cell (i := 7) (by omega)
        rw [show pt s 15 7 = bt s 14 by simp [pt]] at c
        have f := R2.free 7
        have RR := hide ((R2.set 7 (bt s 14 + bt s 15 * 256)).congr (fun i _ => pt_odd s 7 i))
        have R1' := hide (R1.other (a := ⟨w.heap.size + 1, 7, none⟩) (by simp) (.int .u64 (bt s 14 + bt s 15 * 256)))
        have O' := hide (O.setCell (p := ⟨w.heap.size + 1, 7, none⟩) (by simp) (.int .u64 (bt s 14 + bt s 15 * 256)))
        clear R1 R2 O
        go_wp2_with fail
        go_region
        go_wp2
        first | exact ⟨⟨16, by omega, rfl, R1'.out, RR.out, O'.out.drew⟩, by simp [intOf]⟩ | (go_roundw; (case rel => exact ⟨16, by omega, rfl, R1'.out, RR.out, O'.out.drew⟩); (case measure => simp [intOf]))
      · have hb := bt_at s 16 (by omega)
        obtain ⟨p, q⟩ := bt_bd s 16
        have e := ptor0 s 16
        have c := R2.cell (i := 8) (by omega)
        rw [show pt s 16 8 = 0 by simp [pt]] at c
        have f := R2.free 8
        have RR := hide ((R2.set 8 (bt s 16)).congr (fun i _ => pt_even s 8 i))
        have R1' := hide (R1.other (a := ⟨w.heap.size + 1, 8, none⟩) (by simp) (.int .u64 (bt s 16)))
        have O' := hide (O.setCell (p := ⟨w.heap.size + 1, 8, none⟩) (by simp) (.int .u64 (bt s 16)))
        clear R1 R2 O
        go_wp2_with fail
        go_region
        go_wp2
        first | exact ⟨⟨17, by omega, rfl, R1'.out, RR.out, O'.out.drew⟩, by simp [intOf]⟩ | (go_roundw; (case rel => exact ⟨17, by omega, rfl, R1'.out, RR.out, O'.out.drew⟩); (case measure => simp [intOf]))
      · have hb := bt_at s 17 (by omega)
        obtain ⟨p, q⟩ := bt_bd s 17
        have e := ptor1 s 16 17
        have c := R2.cell (i := 8) (by omega)
        rw [show pt s 17 8 = bt s 16 by simp [pt]] at c
        have f := R2.free 8
        have RR := hide ((R2.set 8 (bt s 16 + bt s 17 * 256)).congr (fun i _ => pt_odd s 8 i))
        have R1' := hide (R1.other (a := ⟨w.heap.size + 1, 8, none⟩) (by simp) (.int .u64 (bt s 16 + bt s 17 * 256)))
        have O' := hide (O.setCell (p := ⟨w.heap.size + 1, 8, none⟩) (by simp) (.int .u64 (bt s 16 + bt s 17 * 256)))
        clear R1 R2 O
        go_wp2_with fail
        go_region
        go_wp2
        first | exact ⟨⟨18, by omega, rfl, R1'.out, RR.out, O'.out.drew⟩, by simp [intOf]⟩ | (go_roundw; (case rel => exact ⟨18, by omega, rfl, R1'.out, RR.out, O'.out.drew⟩); (case measure => simp [intOf]))
      · have hb := bt_at s 18 (by omega)
        obtain ⟨p, q⟩ := bt_bd s 18
        have e := ptor0 s 18
        have c := R2.cell (i := 9) (by omega)
        rw [show pt s 18 9 = 0 by simp [pt]] at c
        have f := R2.free 9
        have RR := hide ((R2.set 9 (bt s 18)).congr (fun i _ => pt_even s 9 i))
        have R1' := hide (R1.other (a := ⟨w.heap.size + 1, 9, none⟩) (by simp) (.int .u64 (bt s 18)))
        have O' := hide (O.setCell (p := ⟨w.heap.size + 1, 9, none⟩) (by simp) (.int .u64 (bt s 18)))
        clear R1 R2 O
        go_wp2_with fail
        go_region
        go_wp2
        first | exact ⟨⟨19, by omega, rfl, R1'.out, RR.out, O'.out.drew⟩, by simp [intOf]⟩ | (go_roundw; (case rel => exact ⟨19, by omega, rfl, R1'.out, RR.out, O'.out.drew⟩); (case measure => simp [intOf]))
      · have hb := bt_at s 19 (by omega)
        obtain ⟨p, q⟩ := bt_bd s 19
        have e := ptor1 s 18 19
        have c := R2.cell (i := 9) (by omega)
        rw [show pt s 19 9 = bt s 18 by simp [pt]] at c
        have f := R2.free 9
        have RR := hide ((R2.set 9 (bt s 18 + bt s 19 * 256)).congr (fun i _ => pt_odd s 9 i))
        have R1' := hide (R1.other (a := ⟨w.heap.size + 1, 9, none⟩) (by simp) (.int .u64 (bt s 18 + bt s 19 * 256)))
        have O' := hide (O.setCell (p := ⟨w.heap.size + 1, 9, none⟩) (by simp) (.int .u64 (bt s 18 + bt s 19 * 256)))
        clear R1 R2 O
        go_wp2_with fail
        go_region
        go_wp2
        first | exact ⟨⟨20, by omega, rfl, R1'.out, RR.out, O'.out.drew⟩, by simp [intOf]⟩ | (go_roundw; (case rel => exact ⟨20, by omega, rfl, R1'.out, RR.out, O'.out.drew⟩); (case measure => simp [intOf]))
      · have hb := bt_at s 20 (by omega)
        obtain ⟨p, q⟩ := bt_bd s 20
        have e := ptor0 s 20
        have c := R2.cell (i := 10) (by omega)
        rw [show pt s 20 10 = 0 by simp [pt]] at c
        have f := R2.free 10
        have RR := hide ((R2.set 10 (bt s 20)).congr (fun i _ => pt_even s 10 i))
        have R1' := hide (R1.other (a := ⟨w.heap.size + 1, 10, none⟩) (by simp) (.int .u64 (bt s 20)))
        have O' := hide (O.setCell (p := ⟨w.heap.size + 1, 10, none⟩) (by simp) (.int .u64 (bt s 20)))
        clear R1 R2 O
        go_wp2_with fail
        go_region
        go_wp2
        first | exact ⟨⟨21, by omega, rfl, R1'.out, RR.out, O'.out.drew⟩, by simp [intOf]⟩ | (go_roundw; (case rel => exact ⟨21, by omega, rfl, R1'.out, RR.out, O'.out.drew⟩); (case measure => simp [intOf]))
      · have hb := bt_at s 21 (by omega)
        obtain ⟨p, q⟩ := bt_bd s 21
        have e := ptor1 s 20 21
        have c := R2.cell (i := 10) (by omega)
        rw [show pt s 21 10 = bt s 20 by simp [pt]] at c
        have f := R2.free 10
        have RR := hide ((R2.set 10 (bt s 20 + bt s 21 * 256)).congr (fun i _ => pt_odd s 10 i))
        have R1' := hide (R1.other (a := ⟨w.heap.size + 1, 10, none⟩) (by simp) (.int .u64 (bt s 20 + bt s 21 * 256)))
        have O' := hide (O.setCell (p := ⟨w.heap.size + 1, 10, none⟩) (by simp) (.int .u64 (bt s 20 + bt s 21 * 256)))
        clear R1 R2 O
        go_wp2_with fail
        go_region
        go_wp2
        first | exact ⟨⟨22, by omega, rfl, R1'.out, RR.out, O'.out.drew⟩, by simp [intOf]⟩ | (go_roundw; (case rel => exact ⟨22, by omega, rfl, R1'.out, RR.out, O'.out.drew⟩); (case measure => simp [intOf]))
      · have hb := bt_at s 22 (by omega)
        obtain ⟨p, q⟩ := bt_bd s 22
        have e := ptor0 s 22
        have c := R2.cell (i := 11) (by omega)
        rw [show pt s 22 11 = 0 by simp [pt]] at c
        have f := R2.free 11
        have RR := hide ((R2.set 11 (bt s 22)).congr (fun i _ => pt_even s 11 i))
        have R1' := hide (R1.other (a := ⟨w.heap.size + 1, 11, none⟩) (by simp) (.int .u64 (bt s 22)))
        have O' := hide (O.setCell (p := ⟨w.heap.size + 1, 11, none⟩) (by simp) (.int .u64 (bt s 22)))
        clear R1 R2 O
        go_wp2_with fail
        go_region
        go_wp2
        first | exact ⟨⟨23, by omega, rfl, R1'.out, RR.out, O'.out.drew⟩, by simp [intOf]⟩ | (go_roundw; (case rel => exact ⟨23, by omega, rfl, R1'.out, RR.out, O'.out.drew⟩); (case measure => simp [intOf]))
      · have hb := bt_at s 23 (by omega)
        obtain ⟨p, q⟩ := bt_bd s 23
        have e := ptor1 s 22 23
        have c := R2.cell (i := 11) (by omega)
        rw [show pt s 23 11 = bt s 22 by simp [pt]] at c
        have f := R2.free 11
        have RR := hide ((R2.set 11 (bt s 22 + bt s 23 * 256)).congr (fun i _ => pt_odd s 11 i))
        have R1' := hide (R1.other (a := ⟨w.heap.size + 1, 11, none⟩) (by simp) (.int .u64 (bt s 22 + bt s 23 * 256)))
        have O' := hide (O.setCell (p := ⟨w.heap.size + 1, 11, none⟩) (by simp) (.int .u64 (bt s 22 + bt s 23 * 256)))
        clear R1 R2 O
        go_wp2_with fail
        go_region
        go_wp2
        first | exact ⟨⟨24, by omega, rfl, R1'.out, RR.out, O'.out.drew⟩, by simp [intOf]⟩ | (go_roundw; (case rel => exact ⟨24, by omega, rfl, R1'.out, RR.out, O'.out.drew⟩); (case measure => simp [intOf]))
      · have hb := bt_at s 24 (by omega)
        obtain ⟨p, q⟩ := bt_bd s 24
        have e := ptor0 s 24
        have c := R2.cell (i := 12) (by omega)
        rw [show pt s 24 12 = 0 by simp [pt]] at c
        have f := R2.free 12
        have RR := hide ((R2.set 12 (bt s 24)).congr (fun i _ => pt_even s 12 i))
        have R1' := hide (R1.other (a := ⟨w.heap.size + 1, 12, none⟩) (by simp) (.int .u64 (bt s 24)))
        have O' := hide (O.setCell (p := ⟨w.heap.size + 1, 12, none⟩) (by simp) (.int .u64 (bt s 24)))
        clear R1 R2 O
        go_wp2_with fail
        go_region
        go_wp2
        first | exact ⟨⟨25, by omega, rfl, R1'.out, RR.out, O'.out.drew⟩, by simp [intOf]⟩ | (go_roundw; (case rel => exact ⟨25, by omega, rfl, R1'.out, RR.out, O'.out.drew⟩); (case measure => simp [intOf]))
      · have hb := bt_at s 25 (by omega)
        obtain ⟨p, q⟩ := bt_bd s 25
        have e := ptor1 s 24 25
        have c := R2.cell (i := 12) (by omega)
        rw [show pt s 25 12 = bt s 24 by simp [pt]] at c
        have f := R2.free 12
        have RR := hide ((R2.set 12 (bt s 24 + bt s 25 * 256)).congr (fun i _ => pt_odd s 12 i))
        have R1' := hide (R1.other (a := ⟨w.heap.size + 1, 12, none⟩) (by simp) (.int .u64 (bt s 24 + bt s 25 * 256)))
        have O' := hide (O.setCell (p := ⟨w.heap.size + 1, 12, none⟩) (by simp) (.int .u64 (bt s 24 + bt s 25 * 256)))
        clear R1 R2 O
        go_wp2_with fail
        go_region
        go_wp2
        first | exact ⟨⟨26, by omega, rfl, R1'.out, RR.out, O'.out.drew⟩, by simp [intOf]⟩ | (go_roundw; (case rel => exact ⟨26, by omega, rfl, R1'.out, RR.out, O'.out.drew⟩); (case measure => simp [intOf]))
      · have hb := bt_at s 26 (by omega)
        obtain ⟨p, q⟩ := bt_bd s 26
        have e := ptor0 s 26
        have c := R2.cell (i := 13) (by omega)
        rw [show pt s 26 13 = 0 by simp [pt]] at c
        have f := R2.free 13
        have RR := hide ((R2.set 13 (bt s 26)).congr (fun i _ => pt_even s 13 i))
        have R1' := hide (R1.other (a := ⟨w.heap.size + 1, 13, none⟩) (by simp) (.int .u64 (bt s 26)))
        have O' := hide (O.setCell (p := ⟨w.heap.size + 1, 13, none⟩) (by simp) (.int .u64 (bt s 26)))
        clear R1 R2 O
        go_wp2_with fail
        go_region
        go_wp2
        first | exact ⟨⟨27, by omega, rfl, R1'.out, RR.out, O'.out.drew⟩, by simp [intOf]⟩ | (go_roundw; (case rel => exact ⟨27, by omega, rfl, R1'.out, RR.out, O'.out.drew⟩); (case measure => simp [intOf]))
      · have hb := bt_at s 27 (by omega)
        obtain ⟨p, q⟩ := bt_bd s 27
        have e := ptor1 s 26 27
        have c := R2.cell (i := 13) (by omega)
        rw [show pt s 27 13 = bt s 26 by simp [pt]] at c
        have f := R2.free 13
        have RR := hide ((R2.set 13 (bt s 26 + bt s 27 * 256)).congr (fun i _ => pt_odd s 13 i))
        have R1' := hide (R1.other (a := ⟨w.heap.size + 1, 13, none⟩) (by simp) (.int .u64 (bt s 26 + bt s 27 * 256)))
        have O' := hide (O.setCell (p := ⟨w.heap.size + 1, 13, none⟩) (by simp) (.int .u64 (bt s 26 + bt s 27 * 256)))
        clear R1 R2 O
        go_wp2_with fail
        go_region
        go_wp2
        first | exact ⟨⟨28, by omega, rfl, R1'.out, RR.out, O'.out.drew⟩, by simp [intOf]⟩ | (go_roundw; (case rel => exact ⟨28, by omega, rfl, R1'.out, RR.out, O'.out.drew⟩); (case measure => simp [intOf]))
      · have hb := bt_at s 28 (by omega)
        obtain ⟨p, q⟩ := bt_bd s 28
        have e := ptor0 s 28
        have c := R2.cell (i := 14) (by omega)
        rw [show pt s 28 14 = 0 by simp [pt]] at c
        have f := R2.free 14
        have RR := hide ((R2.set 14 (bt s 28)).congr (fun i _ => pt_even s 14 i))
        have R1' := hide (R1.other (a := ⟨w.heap.size + 1, 14, none⟩) (by simp) (.int .u64 (bt s 28)))
        have O' := hide (O.setCell (p := ⟨w.heap.size + 1, 14, none⟩) (by simp) (.int .u64 (bt s 28)))
        clear R1 R2 O
        go_wp2_with fail
        go_region
        go_wp2
        first | exact ⟨⟨29, by omega, rfl, R1'.out, RR.out, O'.out.drew⟩, by simp [intOf]⟩ | (go_roundw; (case rel => exact ⟨29, by omega, rfl, R1'.out, RR.out, O'.out.drew⟩); (case measure => simp [intOf]))
      · have hb := bt_at s 29 (by omega)
        obtain ⟨p, q⟩ := bt_bd s 29
        have e := ptor1 s 28 29
        have c := R2.cell (i := 14) (by omega)
        rw [show pt s 29 14 = bt s 28 by simp [pt]] at c
        have f := R2.free 14
        have RR := hide ((R2.set 14 (bt s 28 + bt s 29 * 256)).congr (fun i _ => pt_odd s 14 i))
        have R1' := hide (R1.other (a := ⟨w.heap.size + 1, 14, none⟩) (by simp) (.int .u64 (bt s 28 + bt s 29 * 256)))
        have O' := hide (O.setCell (p := ⟨w.heap.size + 1, 14, none⟩) (by simp) (.int .u64 (bt s 28 + bt s 29 * 256)))
        clear R1 R2 O
        go_wp2_with fail
        go_region
        go_wp2
        first | exact ⟨⟨30, by omega, rfl, R1'.out, RR.out, O'.out.drew⟩, by simp [intOf]⟩ | (go_roundw; (case rel => exact ⟨30, by omega, rfl, R1'.out, RR.out, O'.out.drew⟩); (case measure => simp [intOf]))
      · have hb := bt_at s 30 (by omega)
        obtain ⟨p, q⟩ := bt_bd s 30
        have e := ptor0 s 30
        have c := R2.cell (i := 15) (by omega)
        rw [show pt s 30 15 = 0 by simp [pt]] at c
        have f := R2.free 15
        have RR := hide ((R2.set 15 (bt s 30)).congr (fun i _ => pt_even s 15 i))
        have R1' := hide (R1.other (a := ⟨w.heap.size + 1, 15, none⟩) (by simp) (.int .u64 (bt s 30)))
        have O' := hide (O.setCell (p := ⟨w.heap.size + 1, 15, none⟩) (by simp) (.int .u64 (bt s 30)))
        clear R1 R2 O
        go_wp2_with fail
        go_region
        go_wp2
        first | exact ⟨⟨31, by omega, rfl, R1'.out, RR.out, O'.out.drew⟩, by simp [intOf]⟩ | (go_roundw; (case rel => exact ⟨31, by omega, rfl, R1'.out, RR.out, O'.out.drew⟩); (case measure => simp [intOf]))
      · have hb := bt_at s 31 (by omega)
        obtain ⟨p, q⟩ := bt_bd s 31
        have e := ptor1 s 30 31
        have c := R2.cell (i := 15) (by omega)
        rw [show pt s 31 15 = bt s 30 by simp [pt]] at c
        have f := R2.free 15
        have RR := hide ((R2.set 15 (bt s 30 + bt s 31 * 256)).congr (fun i _ => pt_odd s 15 i))
        have R1' := hide (R1.other (a := ⟨w.heap.size + 1, 15, none⟩) (by simp) (.int .u64 (bt s 30 + bt s 31 * 256)))
        have O' := hide (O.setCell (p := ⟨w.heap.size + 1, 15, none⟩) (by simp) (.int .u64 (bt s 30 + bt s 31 * 256)))
        clear R1 R2 O
        go_wp2_with fail
        go_region
        go_wp2
        first | exact ⟨⟨32, by omega, rfl, R1'.out, RR.out, O'.out.drew⟩, by simp [intOf]⟩ | (go_roundw; (case rel => exact ⟨32, by omega, rfl, R1'.out, RR.out, O'.out.drew⟩); (case measure => simp [intOf]))
    · have e : k = 32 := by omega
      subst e
      have RR := hide (R1.setAll (pt s 32))
      have OO := hide (below_setCells (g := w.heap.size) (Nat.le_refl _) (arr 16 (pt s 32)).toList 0 O)
      go_wp2_with (first | (refine wpList_load_row rfl 33 _ rfl (w.heap.size + 1) rfl 33 (arr 16 (pt s 32)) (0, 0) _ R2 Try.underlying33 rfl (info33 _) ?_) | (refine wpList_store_mid rfl 33 _ _ rfl w.heap.size 0 (arr 16 (pt s 32)) rfl rfl (by rw [arr_size]; exact R1.there) (info33 _) (arr_one _ _) ?_))
      exact bodyPost_ret (v := .agg (arr 16 (pt s 32))) (results_cell_row Try.results70 _ _ w.heap.size 33 (arr 16 (pt s 32)) (0, 0) _ rfl RR.out Try.underlying33 rfl (info33 _)) rfl ⟨rfl, OO.out⟩

end Go.Proofs.Ytkeocdebfgcnnaa.Ord

/- The contracts of Of, Canonical and Clamp, of the law's of, and of the document's. -/
namespace Go.Proofs.Ytkeocdebfgcnnaa.Ord
open Go.RowKit

/-- The number of a string's bytes modulo the order. -/
def ofN (s : ByteArray) : Int := bv s s.size % Lm
theorem mod_bytes (s : ByteArray) (w : World) (hs : s.size ≤ 64) :
    Calls Try.prog 56 #[.agg (arr 8 fun j => sw s j 8)] w fun x w' => x = .returned (.agg (arr 4 (d64 (ofN s)))) ∧ Below w.heap.size w w' := by
  have h := modulo_any (fun j => sw s j 8) w (sw_wds s 8)
  rw [Q_bv s 8, bv_64 s hs] at h
  exact h

set_option maxRecDepth 100000 in
set_option maxHeartbeats 1000000 in
theorem of_any (s : ByteArray) (w : World) (hs : s.size ≤ 64) (hp : s.size = 32 ∨ s.size = 64) :
    Calls Try.prog 20 #[.string s] w fun r w' => r = .returned (.tuple #[.agg (arr 4 (d64 (ofN s))), .int .i64 0]) ∧ Below w.heap.size w w' := by
  have HM := hide fun w => mod_bytes s w hs
  have R : Row (w.alloc (.cells #[Value.int IntKind.u64 0, Value.int IntKind.u64 0, Value.int IntKind.u64 0, Value.int IntKind.u64 0] 51)) w.heap.size 51 4 (fun _ => 0) := Row.new w 51 4 (fun _ => 0)
  have O : Below w.heap.size w (w.alloc (.cells #[Value.int IntKind.u64 0, Value.int IntKind.u64 0, Value.int IntKind.u64 0, Value.int IntKind.u64 0] 51)) := new_below w _
  obtain ⟨cap, W1, hcv, B, hb⟩ := conv_str (w.alloc (.cells #[Value.int IntKind.u64 0, Value.int IntKind.u64 0, Value.int IntKind.u64 0, Value.int IntKind.u64 0] 51)) s
  rw [show (w.alloc (.cells #[Value.int IntKind.u64 0, Value.int IntKind.u64 0, Value.int IntKind.u64 0, Value.int IntKind.u64 0] 51)).heap.size = w.heap.size + 1 by simp] at hcv B
  have HB := hide B
  replace R := R.keep hb
  replace O := O.trans (hb.mono O.size)
  clear B hb
  generalize ofN s = V at *
  have fin : ∀ w', Row w' w.heap.size 51 4 (fun _ => 0) → Below w.heap.size w w' → True := fun _ _ _ => trivial
  clear fin
  rcases hp with hp | hp
  · have n0 : ((s.size : Int) != 32) = false := by simp [hp]
    go_enter Try.func20, Try.ntmps20
    go_wp2_with fail
    have HC := dbl_any s _ cap W1 hs HB.out
    rw [hp] at HC
    refine HC.mono ?_
    clear HC
    rintro _ w1 ⟨rfl, hb1⟩
    replace R := R.keep hb1
    replace O := O.trans (hb1.mono O.size)
    clear hb1 HB hcv n0
    go_wp2_with fail
    refine (HM.out _).mono ?_
    rintro _ w2 ⟨rfl, hb1⟩
    replace R := R.keep hb1
    replace O := O.trans (hb1.mono O.size)
    clear hb1 HM
    have RR := hide (R.setAll (d64 V))
    have OO := hide (below_setCells (g := w.heap.size) (Nat.le_refl _) (arr 4 (d64 V)).toList 0 O)
    clear O
    go_wp2_with (refine wpList_store_mid rfl 51 _ _ rfl w.heap.size 0 (arr 4 (d64 V)) rfl rfl ?thn (info51 _) (arr_one _ _) ?_)
    case thn => rw [arr_size]; exact R.there
    exact bodyPost_ret (v := .tuple #[.agg (arr 4 (d64 V)), .int .i64 0]) (results_cell_tmp Try.results20 _ _ w.heap.size 51 (arr 4 (d64 V)) (0, 0) _ _ rfl rfl RR.out Try.underlying51 rfl (info51 _)) rfl ⟨rfl, OO.out⟩
  · have n0 : ((s.size : Int) != 32) = true := by simp [hp]
    have n1 : ((s.size : Int) != 64) = false := by simp [hp]
    go_enter Try.func20, Try.ntmps20
    go_wp2_with fail
    have HC := dbl_any s _ cap W1 hs HB.out
    rw [hp] at HC
    refine HC.mono ?_
    clear HC
    rintro _ w1 ⟨rfl, hb1⟩
    replace R := R.keep hb1
    replace O := O.trans (hb1.mono O.size)
    clear hb1 HB hcv n0 n1
    go_wp2_with fail
    refine (HM.out _).mono ?_
    rintro _ w2 ⟨rfl, hb1⟩
    replace R := R.keep hb1
    replace O := O.trans (hb1.mono O.size)
    clear hb1 HM
    have RR := hide (R.setAll (d64 V))
    have OO := hide (below_setCells (g := w.heap.size) (Nat.le_refl _) (arr 4 (d64 V)).toList 0 O)
    clear O
    go_wp2_with (refine wpList_store_mid rfl 51 _ _ rfl w.heap.size 0 (arr 4 (d64 V)) rfl rfl ?thm (info51 _) (arr_one _ _) ?_)
    case thm => rw [arr_size]; exact R.there
    exact bodyPost_ret (v := .tuple #[.agg (arr 4 (d64 V)), .int .i64 0]) (results_cell_tmp Try.results20 _ _ w.heap.size 51 (arr 4 (d64 V)) (0, 0) _ _ rfl rfl RR.out Try.underlying51 rfl (info51 _)) rfl ⟨rfl, OO.out⟩

set_option maxHeartbeats 400000 in
theorem of_no (s : ByteArray) (w : World) (h1 : s.size ≠ 32) (h2 : s.size ≠ 64) :
    Calls Try.prog 20 #[.string s] w fun r w' => r = .returned (.tuple #[.agg (arr 4 (d64 0)), .int .i64 2]) ∧ Below w.heap.size w w' := by
  have n0 : ((s.size : Int) != 32) = true := by simp; omega
  have n1 : ((s.size : Int) != 64) = true := by simp; omega
  go_enter Try.func20, Try.ntmps20
  go_wp2
  exact bodyPost_ret (v := .tuple #[.agg (arr 4 (d64 0)), .int .i64 2]) (by simp [results, Try.results20, go_sem]; rfl) rfl ⟨rfl, (Below.refl _ _).alloc (Nat.le_refl _) _⟩

end Go.Proofs.Ytkeocdebfgcnnaa.Ord

/- EdwNone. -/
namespace Go.Proofs.Ytkeocdebfgcnnaa
open Go.RowKit

theorem of_ex (s : ByteArray) : ∃ (k : Nat → Int) (c : Int), ∀ w, Calls Try.prog 20 #[.string s] w fun r w' => r = .returned (.tuple #[.agg (arr 4 k), .int .i64 c]) ∧ Below w.heap.size w w' := by
  by_cases h : s.size = 32 ∨ s.size = 64
  · exact ⟨_, _, fun w => Ord.of_any s w (by omega) h⟩
  · exact ⟨_, _, fun w => Ord.of_no s w (by omega) (by omega)⟩
/-- EdwNone. -/
theorem none_any (s : ByteArray) (w : World) : Calls Try.prog 5 #[.string s] w fun r w' => r = .returned (.bool true) ∧ Below w.heap.size w w' := by
  obtain ⟨k, c, hk⟩ := of_ex s
  by_cases hc : c = 0
  · subst hc
    have nb := base_rep.none
    have a1 : addV base5 none5 = none5 := by
      unfold addV
      rw [nb, none5_b]
      simp only [Bool.false_eq_true, if_false, if_true]
    have a2 : addV none5 base5 = none5 := by
      unfold addV
      rw [none5_b]
      simp only [if_true]
    have a3 : negV none5 = none5 := by
      unfold negV
      rw [none5_b]
      simp only [if_true]
    refine none2_gen s k base5.f w
      { h1 := hk
        h2 := c_base
        h3 := bytes_yes none5_ok none_bytes
        h4 := fun w => by
          have h := c_add base5 none5 w base5_ok none5_ok
          rwa [a1] at h
        h5 := fun w => by
          have h := c_add none5 base5 w none5_ok base5_ok
          rwa [a2] at h
        h6 := fun w => by
          have h := c_neg none5 w none5_ok
          rwa [a3] at h
        h7 := fun w => mulN_gen zeroE.f zeroE.f zeroE.f zeroE.f k w ⟨none_b none5_ok none5_b⟩
        h8 := same_yes none5_ok none5_ok (by unfold sameV; rw [none5_b]; rfl)
        h9 := same_yes base5_ok none5_ok (by unfold sameV; rw [nb, none5_b]; rfl)
        h10 := same_yes none5_ok base5_ok (by unfold sameV; rw [none5_b]; rfl)
        h11 := alive_any }
  · exact none1_gen s c k w ⟨hk, alive_any⟩ hc

end Go.Proofs.Ytkeocdebfgcnnaa
