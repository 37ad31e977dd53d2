/- Part 7 of the walks and facts. -/
import Derived.Test.YtmhfmhmpoobmlaaGreatDoorCxDef
import Derived.Test.YtmhfmhmpoobmlaaGreatDoorCx1
import Derived.Test.YtmhfmhmpoobmlaaGreatDoorCx3
import Derived.BigQuiet
import Derived.Deep.Cut
import Derived.Deep.RegionWith
import Derived.Laws.Bits64b
import Derived.Laws.BitsAllLaws
import Derived.Laws.BytesString
import Derived.Laws.Externs
import Derived.Laws.Rows
import Derived.Laws.StructEq
import Derived.Lib.Mul64
import Derived.Test.YtmhfmhmpoobmlaaGreatDoorRows
import Derived.WalkKit
import Derived.WalkLawsBesides
import Derived.WalkSpells
set_option maxHeartbeats 4000000
set_option maxRecDepth 100000
namespace Go.Proofs.YtmhfmhmpoobmlaaGreatDoor.Ord
open Go.RowKit
theorem maskN (a : Nat) (ha : a < 18446744073709551616) : bits .and .u64 (a : Int) 4294967295 = ((a % 4294967296 : Nat) : Int) := by
 have h := bits_and_u64_nat a 4294967295 ha (by omega)
 have e : a &&& 4294967295 = a % 4294967296 := Nat.and_two_pow_sub_one_eq_mod a 32
 rw [e] at h
 exact h
theorem divN (a : Nat) : (a : Int) / 4294967296 = ((a / 4294967296 : Nat) : Int) := by omega
theorem mulN (a b : Nat) : (a : Int) * (b : Int) = ((a * b : Nat) : Int) := (Int.natCast_mul a b).symm
theorem addN (a b : Nat) : (a : Int) + (b : Int) = ((a + b : Nat) : Int) := (Int.natCast_add a b).symm
theorem wrapN (a : Nat) (ha : a < 18446744073709551616) : IntKind.u64.wrap (a : Int) = (a : Int) := by rw [IntKind.wrap_u64]; omega
theorem wrapM (a : Nat) : IntKind.u64.wrap (a : Int) = ((a % 18446744073709551616 : Nat) : Int) := by rw [IntKind.wrap_u64]; omega
theorem mul64_nat (x y : Nat) (hx : x < 18446744073709551616) (hy : y < 18446744073709551616) (w : World) :
  Calls Tryz.prog 140 #[.int .u64 x, .int .u64 y] w fun e w' => e = .returned (.tuple #[.int .u64 ((x * y / 18446744073709551616 : Nat) : Int), .int .u64 ((x * y % 18446744073709551616 : Nat) : Int)]) ∧ w' = w := by
 obtain ⟨bd, bt, bw, hhi⟩ := Lib.mul64_hi x y hx hy
 have ba := Lib.half_mul_le (a := x / 4294967296) (b := y / 4294967296) (by omega) (by omega)
 have bb := Lib.half_mul_le (a := x / 4294967296) (b := y % 4294967296) (by omega) (by omega)
 have bc := Lib.half_mul_le (a := x % 4294967296) (b := y / 4294967296) (by omega) (by omega)
 have ba' : x / 4294967296 * (y / 4294967296) < 18446744073709551616 := by omega
 have bb' : x / 4294967296 * (y % 4294967296) < 18446744073709551616 := by omega
 have bc' : x % 4294967296 * (y / 4294967296) < 18446744073709551616 := by omega
 have bh1 : x / 4294967296 * (y / 4294967296) + (x / 4294967296 * (y % 4294967296) + x % 4294967296 * (y % 4294967296) / 4294967296) / 4294967296 < 18446744073709551616 := by omega
 have bh : x / 4294967296 * (y / 4294967296) + (x / 4294967296 * (y % 4294967296) + x % 4294967296 * (y % 4294967296) / 4294967296) / 4294967296 + ((x / 4294967296 * (y % 4294967296) + x % 4294967296 * (y % 4294967296) / 4294967296) % 4294967296 + x % 4294967296 * (y / 4294967296)) / 4294967296 < 18446744073709551616 := by omega
 go_enter Tryz.func140, Tryz.ntmps140
 go_wp2
 simp only [maskN x hx, maskN y hy, divN, mulN, addN, wrapN _ bd, wrapN _ bb', wrapN _ bt, maskN _ bt, wrapN _ bc', wrapN _ bw, wrapN _ ba', wrapN _ bh1, wrapN _ bh, wrapM (x * y)]
 rw [hhi]
 go_ret2
 exact ⟨rfl, rfl⟩
theorem add64_run (x y c : Int) (hx : 0 ≤ x) (hy : 0 ≤ y) (hc0 : 0 ≤ c) (hc : c ≤ 1) (w : World) :
  (callFunc 124 #[.int .u64 x, .int .u64 y, .int .u64 c]).run Tryz.prog w =
   .ok (.value (.tuple #[.int .u64 ((x + y + c) % 18446744073709551616), .int .u64 ((x + y + c) / 18446744073709551616)])) w := by
 rw [run_callFunc_extern Tryz.func124 (by kernel_rfl) (by kernel_rfl) (by kernel_rfl) (e := add64Entry) (by kernel_rfl), run_add64 x y c hx hy hc0 hc]
 simp only [Result.andThen]
abbrev sub64Row : Array Value → Sem Value := (Extern.MathBitsCarry.rows.getD 1 default).2
theorem run_sub64 (x y c : Int) (hx : W64 x) (hy : W64 y) (hc0 : 0 ≤ c) (hc : c ≤ 1) (w : World) :
  (sub64Row #[.int .u64 x, .int .u64 y, .int .u64 c]).run Tryz.prog w = .ok (.tuple #[.int .u64 ((x - y - c) % 18446744073709551616), .int .u64 (if x < y + c then 1 else 0)]) w := by
 have key : ∀ k : Nat, k ≤ 1 → (sub64Row #[.int .u64 x, .int .u64 y, .int .u64 (k : Int)]).run Tryz.prog w =
   .ok (Extern.MathBitsCarry.pair ((x.toNat + Extern.MathBitsCarry.m64 - y.toNat - k) % Extern.MathBitsCarry.m64) (if x.toNat < y.toNat + k then 1 else 0)) w := by
  intro k hk
  have : k = 0 ∨ k = 1 := by omega
  rcases this with rfl | rfl <;> rfl
 obtain ⟨k, rfl⟩ := Int.eq_ofNat_of_zero_le hc0
 rw [key k (by omega)]
 obtain ⟨X, rfl⟩ := Int.eq_ofNat_of_zero_le hx.1
 obtain ⟨Y, rfl⟩ := Int.eq_ofNat_of_zero_le hy.1
 have hX := hx.2
 have hY := hy.2
 simp only [Extern.MathBitsCarry.pair, Extern.MathBitsCarry.m64, Int.toNat_natCast]
 have e1 : Int.ofNat ((X + 2 ^ 64 - Y - k) % 2 ^ 64) = ((X : Int) - (Y : Int) - (k : Int)) % 18446744073709551616 := by
  show (((X + 2 ^ 64 - Y - k) % 2 ^ 64 : Nat) : Int) = _
  omega
 have e2 : Int.ofNat (if X < Y + k then 1 else 0) = if (X : Int) < (Y : Int) + (k : Int) then 1 else 0 := by
  by_cases h : X < Y + k
  ·rw [if_pos h, if_pos (by omega)]; rfl
  ·rw [if_neg h, if_neg (by omega)]; rfl
 rw [e1, e2]
theorem sub64_run (x y c : Int) (hx : W64 x) (hy : W64 y) (hc0 : 0 ≤ c) (hc : c ≤ 1) (w : World) :
  (callFunc 133 #[.int .u64 x, .int .u64 y, .int .u64 c]).run Tryz.prog w =
   .ok (.value (.tuple #[.int .u64 ((x - y - c) % 18446744073709551616), .int .u64 (if x < y + c then 1 else 0)])) w := by
 rw [run_callFunc_extern Tryz.func133 (by kernel_rfl) (by kernel_rfl) (by kernel_rfl) (e := sub64Row) (by kernel_rfl), run_sub64 x y c hx hy hc0 hc]
 simp only [Result.andThen]
theorem productAnd_any (x y a b : Int) (w : World) (hx : W64 x) (hy : W64 y) (ha : W64 a) (hb : W64 b) :
  Calls Tryz.prog 126 #[.int .u64 x, .int .u64 y, .int .u64 a, .int .u64 b] w fun r w' => r = .returned (.tuple #[.int .u64 ((x * y + a + b) % 18446744073709551616), .int .u64 ((x * y + a + b) / 18446744073709551616)]) ∧ w' = w := by
 obtain ⟨X, rfl⟩ := Int.eq_ofNat_of_zero_le hx.1
 obtain ⟨Y, rfl⟩ := Int.eq_ofNat_of_zero_le hy.1
 have hX : X < 18446744073709551616 := by have := hx.2; omega
 have hY : Y < 18446744073709551616 := by have := hy.2; omega
 have hXY : X * Y ≤ 18446744073709551615 * 18446744073709551615 := Nat.mul_le_mul (by omega) (by omega)
 have e : ((X : Int) * (Y : Int)) = ((X * Y : Nat) : Int) := (Int.natCast_mul X Y).symm
 rw [e]
 have HC := hide fun w => mul64_nat X Y hX hY w
 clear hx hy hX hY e
 generalize X * Y = P at *
 obtain ⟨a0, a1⟩ := ha
 obtain ⟨b0, b1⟩ := hb
 have r1 := add64_run ((P : Int) % 18446744073709551616) a 0 (by omega) a0 (by decide) (by decide)
 have r2 := add64_run (((P : Int) + a) % 18446744073709551616) b 0 (by omega) b0 (by decide) (by decide)
 rw [Int.add_zero] at r1 r2
 have hP : (P : Int) ≤ 340282366920938463426481119284349108225 := by omega
 have q2 : (P : Int) / 18446744073709551616 + ((P : Int) % 18446744073709551616 + a) / 18446744073709551616 + (((P : Int) + a) % 18446744073709551616 + b) / 18446744073709551616 = ((P : Int) + a + b) / 18446744073709551616 := by omega
 have HQ := hide q2
 clear q2 hXY
 go_enter Tryz.func126, Tryz.ntmps126
 go_wp2_with fail
 refine (HC.out _).mono ?_
 rintro _ w1 ⟨rfl, rfl⟩
 clear HC
 go_wp2
 go_ret2
 refine ⟨?_, rfl⟩
 rw [← HQ.out]
 rfl
theorem new_below (W : World) (o : Obj) : Below W.heap.size W (W.alloc o) := (Below.refl _ _).alloc (Nat.le_refl _) _
theorem KW.some (W : World) : Nonempty (KW W) := ⟨⟨W, Below.refl _ _⟩⟩
def Q (f : Nat → Int) : Nat → Int
 | 0 => 0
 | n + 1 => Q f n + f n * 18446744073709551616 ^ n
def Wds (f : Nat → Int) (n : Nat) : Prop := ∀ i, i < n → W64 (f i)
theorem Wds.le {f : Nat → Int} {n m : Nat} (h : Wds f n) (hm : m ≤ n) : Wds f m := fun i hi => h i (by omega)
theorem p64 (n : Nat) : (0 : Int) < 18446744073709551616 ^ n := Int.pow_pos (by decide)
theorem p64s (n : Nat) : (18446744073709551616 : Int) ^ (n + 1) = 18446744073709551616 * 18446744073709551616 ^ n := by rw [Int.pow_succ, Int.mul_comm]
theorem Q_congr {f g : Nat → Int} : ∀ {n : Nat}, (∀ i, i < n → f i = g i) → Q f n = Q g n
 | 0, _ => rfl
 | n + 1, h => by
  simp only [Q]
  rw [Q_congr (n := n) fun i hi => h i (by omega), h n (by omega)]
theorem Q_bd {f : Nat → Int} : ∀ {n : Nat}, Wds f n → 0 ≤ Q f n ∧ Q f n < 18446744073709551616 ^ n
 | 0, _ => by simp [Q]
 | n + 1, h => by
  have ih := Q_bd (n := n) (h.le (by omega))
  have hd := h n (by omega)
  have hp := p64 n
  have h1 : f n * 18446744073709551616 ^ n ≤ 18446744073709551615 * 18446744073709551616 ^ n := Int.mul_le_mul_of_nonneg_right (by have := hd.2; omega) (by omega)
  have h2 : 0 ≤ f n * 18446744073709551616 ^ n := Int.mul_nonneg hd.1 (by omega)
  rw [p64s]
  simp only [Q]
  omega
def pc (f g : Nat → Int) : Nat → Int
 | 0 => 0
 | k + 1 => (f k + g k + pc f g k) / 18446744073709551616
def ps (f g : Nat → Int) : Nat → Int := fun k => (f k + g k + pc f g k) % 18446744073709551616
theorem pc_bd {f g : Nat → Int} (hf : Wds f 4) (hg : Wds g 4) : ∀ k, k ≤ 4 → 0 ≤ pc f g k ∧ pc f g k ≤ 1
 | 0, _ => by simp [pc]
 | k + 1, h => by
  have ih := pc_bd hf hg k (by omega)
  have h1 := hf k (by omega)
  have h2 := hg k (by omega)
  unfold W64 at h1 h2
  simp only [pc]
  omega
theorem ps_wds (f g : Nat → Int) (n : Nat) : Wds (ps f g) n := fun i _ => by unfold ps W64; omega
theorem ps_Q (f g : Nat → Int) : ∀ k, Q (ps f g) k + pc f g k * 18446744073709551616 ^ k = Q f k + Q g k
 | 0 => by simp [Q, pc]
 | k + 1 => by
  have ih := ps_Q f g k
  have e : pc f g (k + 1) * 18446744073709551616 ^ (k + 1) = 18446744073709551616 * pc f g (k + 1) * 18446744073709551616 ^ k := by rw [p64s, ← Int.mul_assoc, Int.mul_comm (pc f g (k + 1)) 18446744073709551616]
  have e2 : ps f g k = f k + g k + pc f g k - 18446744073709551616 * pc f g (k + 1) := by
   simp only [ps, pc]
   omega
  simp only [Q]
  rw [e, e2, Int.sub_mul, Int.add_mul, Int.add_mul]
  omega
def br (f g : Nat → Int) : Nat → Int
 | 0 => 0
 | k + 1 => if f k < g k + br f g k then 1 else 0
def ms (f g : Nat → Int) : Nat → Int := fun k => (f k - g k - br f g k) % 18446744073709551616
theorem br_bd (f g : Nat → Int) : ∀ k, 0 ≤ br f g k ∧ br f g k ≤ 1
 | 0 => by simp [br]
 | k + 1 => by
  simp only [br]
  split <;> omega
theorem ms_wds (f g : Nat → Int) (n : Nat) : Wds (ms f g) n := fun i _ => by unfold ms W64; omega
theorem ms_Q {f g : Nat → Int} (hf : Wds f 4) (hg : Wds g 4) : ∀ k, k ≤ 4 → Q (ms f g) k - br f g k * 18446744073709551616 ^ k = Q f k - Q g k
 | 0, _ => by simp [Q, br]
 | k + 1, h => by
  have ih := ms_Q hf hg k (by omega)
  have h1 := hf k (by omega)
  have h2 := hg k (by omega)
  have h3 := br_bd f g k
  unfold W64 at h1 h2
  have e : br f g (k + 1) * 18446744073709551616 ^ (k + 1) = 18446744073709551616 * br f g (k + 1) * 18446744073709551616 ^ k := by rw [p64s, ← Int.mul_assoc, Int.mul_comm (br f g (k + 1)) 18446744073709551616]
  have e2 : ms f g k = f k - g k - br f g k + 18446744073709551616 * br f g (k + 1) := by
   simp only [ms, br]
   split <;> omega
  simp only [Q]
  rw [e, e2, Int.add_mul, Int.sub_mul, Int.sub_mul]
  omega
def d64 (N : Int) : Nat → Int := fun i => N / 18446744073709551616 ^ i % 18446744073709551616
theorem d64_wds (N : Int) (n : Nat) : Wds (d64 N) n := fun i _ => by unfold d64 W64; omega
theorem d64_Q (N : Int) (h0 : 0 ≤ N) : ∀ n, Q (d64 N) n = N % 18446744073709551616 ^ n
 | 0 => by simp [Q, Int.emod_one]
 | n + 1 => by
  simp only [Q]
  rw [d64_Q N h0 n, d64, Int.pow_succ]
  have hp := p64 n
  have e1 := Int.emod_add_mul_ediv N (18446744073709551616 ^ n)
  have e2 := Int.emod_add_mul_ediv (N / 18446744073709551616 ^ n) 18446744073709551616
  rw [Int.emod_def N (18446744073709551616 ^ n * 18446744073709551616), ← Int.ediv_ediv_of_nonneg (by omega)]
  generalize N / 18446744073709551616 ^ n = A at *
  have e3 : A % 18446744073709551616 * 18446744073709551616 ^ n = A * 18446744073709551616 ^ n - 18446744073709551616 * (A / 18446744073709551616) * 18446744073709551616 ^ n := by
   rw [← Int.sub_mul]
   congr 1
   omega
  rw [e3]
  generalize A / 18446744073709551616 = B at *
  generalize (18446744073709551616 : Int) ^ n = X at *
  rw [Int.mul_comm A X, show 18446744073709551616 * B * X = X * 18446744073709551616 * B by rw [Int.mul_comm (18446744073709551616 * B) X, ← Int.mul_assoc]]
  omega
theorem Q_inj {f g : Nat → Int} : ∀ {n : Nat}, Wds f n → Wds g n → Q f n = Q g n → ∀ i, i < n → f i = g i
 | 0, _, _, _, i, hi => by omega
 | n + 1, hf, hg, h, i, hi => by
  have b1 := Q_bd (hf.le (m := n) (by omega))
  have b2 := Q_bd (hg.le (m := n) (by omega))
  have hp := p64 n
  simp only [Q] at h
  have hn : f n = g n := by
   generalize Q f n = a at *
   generalize Q g n = b at *
   generalize (18446744073709551616 : Int) ^ n = X at *
   have h2 : (f n - g n) * X = b - a := by rw [Int.sub_mul]; omega
   by_cases e : f n - g n = 0
   ·omega
   ·exfalso
    by_cases hl : 1 ≤ f n - g n
    ·have : 1 * X ≤ (f n - g n) * X := Int.mul_le_mul_of_nonneg_right hl (by omega)
     omega
    ·have : (f n - g n) * X ≤ (-1) * X := Int.mul_le_mul_of_nonneg_right (by omega) (by omega)
     omega
  by_cases hi2 : i = n
  ·rw [hi2]; exact hn
  ·exact Q_inj (n := n) (hf.le (by omega)) (hg.le (by omega)) (by rw [hn] at h; omega) i (by omega)
def upto (k : Nat) (r f : Nat → Int) : Nat → Int := fun i => if i < k then r i else f i
theorem upto_zero (r f : Nat → Int) (i : Nat) : f i = upto 0 r f i := by unfold upto; rw [if_neg (by omega)]
theorem upto_at (k : Nat) (r f : Nat → Int) : upto k r f k = f k := by unfold upto; rw [if_neg (by omega)]
theorem upto_end {n : Nat} (r f : Nat → Int) (i : Nat) (hi : i < n) : upto n r f i = r i := by unfold upto; rw [if_pos hi]
theorem upto_next (k : Nat) (r f : Nat → Int) {v : Int} (hv : r k = v) (i : Nat) : upd (upto k r f) k v i = upto (k + 1) r f i := by
 unfold upd upto
 by_cases h : i = k
 ·subst h
  rw [if_pos rfl, if_pos (by omega), hv]
 ·rw [if_neg h]
  by_cases h2 : i < k
  ·rw [if_pos h2, if_pos (by omega)]
  ·rw [if_neg h2, if_neg (by omega)]
theorem rowD {w : World} {g : Nat} {T : TypeId} {n : Nat} {f : Nat → Int} (h : Row w g T n f) : Row w.drew g T n f := h
theorem info42 (f : Nat → Int) : (Tryz.prog.info? 42).map (·.size) = some (arr 4 f).size := by rw [arr_size]; kernel_rfl
theorem info44 (f : Nat → Int) : (Tryz.prog.info? 44).map (·.size) = some (arr 4 f).size := by rw [arr_size]; kernel_rfl
theorem info96 (f : Nat → Int) : (Tryz.prog.info? 96).map (·.size) = some (arr 8 f).size := by rw [arr_size]; kernel_rfl
theorem plus_any (f g : Nat → Int) (w : World) (hf : Wds f 4) (hg : Wds g 4) :
  Cs 67 #[.agg (arr 4 f), .agg (arr 4 g)] w (.tuple #[.agg (arr 4 (ps f g)), .int .u64 (pc f g 4)]) := by
 go_enter Tryz.func67, Tryz.ntmps67
 go_wp2
 rw [show #[Value.int .u64 0, Value.int .u64 0, Value.int .u64 0, Value.int .u64 0] = arr 4 (fun _ => 0) from rfl]
 have R1 : Row (((w.alloc (.cells (arr 4 f) 42)).alloc (.cells (arr 4 g) 42)).alloc (.cells (arr 4 fun _ => 0) 42)) w.heap.size 42 4 f := ((Row.new w 42 4 f).alloc _).alloc _
 have R2 : Row (((w.alloc (.cells (arr 4 f) 42)).alloc (.cells (arr 4 g) 42)).alloc (.cells (arr 4 fun _ => 0) 42)) (w.heap.size + 1) 42 4 g := (Row.new' _ 42 4 _ (by simp)).alloc _
 have R3 : Row (((w.alloc (.cells (arr 4 f) 42)).alloc (.cells (arr 4 g) 42)).alloc (.cells (arr 4 fun _ => 0) 42)) (w.heap.size + 1 + 1) 42 4 (fun _ => 0) := Row.new' _ 42 4 _ (by simp)
 have O : Below w.heap.size w (((w.alloc (.cells (arr 4 f) 42)).alloc (.cells (arr 4 g) 42)).alloc (.cells (arr 4 fun _ => 0) 42)) := (((Below.refl _ _).alloc (Nat.le_refl _) _).alloc (by simp) _).alloc (by simp; omega) _
 generalize (((w.alloc (.cells (arr 4 f) 42)).alloc (.cells (arr 4 g) 42)).alloc (.cells (arr 4 fun _ => 0) 42)) = W at R1 R2 R3 O ⊢
 go_loopw [6, 8] (fun c i wr => ∃ k : Nat, k ≤ 4 ∧ c = .int .u64 (pc f g k) ∧ i = .int .i64 k ∧ Row wr w.heap.size 42 4 (upto k (ps f g) f) ∧ Row wr (w.heap.size + 1) 42 4 g ∧ Row wr (w.heap.size + 1 + 1) 42 4 (fun _ => 0) ∧ Below w.heap.size w wr) (fun _ i _ => 4 - (intOf i).toNat)
 case atStart => exact ⟨0, by omega, rfl, rfl, R1.congr (fun i _ => upto_zero _ _ i), R2, R3, O⟩
 case round =>
  clear R1 R2 R3 O
  obtain ⟨k, hk, rfl, rfl, R1, R2, R3, O⟩ := hrel
  by_cases hlt : k < 4
  ·have c := R1.cell (i := k) hlt
   rw [upto_at] at c
   have d := R2.cell hlt
   have e := R1.free
   have i1 : (0 : Int) ≤ (k : Int) := by omega
   have i2 : (k : Int) < 4 := by omega
   have hb := pc_bd hf hg k hk
   have hr := add64_run (f k) (g k) (pc f g k) (hf k hlt).1 (hg k hlt).1 hb.1 hb.2
   have HN := hide (show pc f g (k + 1) = (f k + g k + pc f g k) / 18446744073709551616 from rfl)
   have HM := hide (show ps f g k = (f k + g k + pc f g k) % 18446744073709551616 from rfl)
   go_wp2_with fail
   go_region_with fail
   all_goals
    go_wp2
    exact ⟨⟨k + 1, by omega, by rw [HN.out], by go_num, rowD ((R1.set k ((f k + g k + pc f g k) % 18446744073709551616)).congr (fun i _ => upto_next k _ _ HM.out i)), rowD (R2.other (a := ⟨w.heap.size, k, none⟩) (by simp) _), rowD (R3.other (a := ⟨w.heap.size, k, none⟩) (by simp <;> omega) _), (O.setCell (p := ⟨w.heap.size, k, none⟩) (Nat.le_refl _) _).drew⟩, by simp [intOf]; omega⟩
  ·have hk' : k = 4 := by omega
   subst hk'
   replace R1 := R1.congr (f' := ps f g) (fun i hi => upto_end _ _ i hi)
   have RR := hide (R3.setAll (ps f g))
   have OO := hide (below_setCells (g := w.heap.size + 1 + 1) (by omega) (arr 4 (ps f g)).toList 0 O)
   have HX := hide R1
   clear R1 R2 O
   go_wp2_with (first | (refine wpList_load_row rfl 42 _ rfl w.heap.size rfl 42 (arr 4 (ps f g)) (0, 0) _ ?hgplus Tryz.underlying42 rfl (info42 _) ?_) | (refine wpList_store_mid rfl 42 _ _ rfl (w.heap.size + 1 + 1) 0 (arr 4 (ps f g)) rfl rfl ?thplus (info42 _) (arr_one _ _) ?_))
   case hgplus => exact HX.out
   case thplus => rw [arr_size]; exact R3.there
   exact bodyPost_ret (v := .tuple #[.agg (arr 4 (ps f g)), .int .u64 (pc f g 4)]) (results_cell_tmp Tryz.results67 _ _ (w.heap.size + 1 + 1) 42 (arr 4 (ps f g)) (0, 0) _ (.int .u64 (pc f g 4)) rfl rfl RR.out Tryz.underlying42 rfl (info42 _)) rfl ⟨rfl, OO.out⟩
theorem minus_any (f g : Nat → Int) (w : World) (hf : Wds f 4) (hg : Wds g 4) :
  Cs 84 #[.agg (arr 4 f), .agg (arr 4 g)] w (.tuple #[.agg (arr 4 (ms f g)), .int .u64 (br f g 4)]) := by
 go_enter Tryz.func84, Tryz.ntmps84
 go_wp2
 rw [show #[Value.int .u64 0, Value.int .u64 0, Value.int .u64 0, Value.int .u64 0] = arr 4 (fun _ => 0) from rfl]
 have R1 : Row (((w.alloc (.cells (arr 4 f) 42)).alloc (.cells (arr 4 g) 42)).alloc (.cells (arr 4 fun _ => 0) 42)) w.heap.size 42 4 f := ((Row.new w 42 4 f).alloc _).alloc _
 have R2 : Row (((w.alloc (.cells (arr 4 f) 42)).alloc (.cells (arr 4 g) 42)).alloc (.cells (arr 4 fun _ => 0) 42)) (w.heap.size + 1) 42 4 g := (Row.new' _ 42 4 _ (by simp)).alloc _
 have R3 : Row (((w.alloc (.cells (arr 4 f) 42)).alloc (.cells (arr 4 g) 42)).alloc (.cells (arr 4 fun _ => 0) 42)) (w.heap.size + 1 + 1) 42 4 (fun _ => 0) := Row.new' _ 42 4 _ (by simp)
 have O : Below w.heap.size w (((w.alloc (.cells (arr 4 f) 42)).alloc (.cells (arr 4 g) 42)).alloc (.cells (arr 4 fun _ => 0) 42)) := (((Below.refl _ _).alloc (Nat.le_refl _) _).alloc (by simp) _).alloc (by simp; omega) _
 generalize (((w.alloc (.cells (arr 4 f) 42)).alloc (.cells (arr 4 g) 42)).alloc (.cells (arr 4 fun _ => 0) 42)) = W at R1 R2 R3 O ⊢
 go_loopw [6, 8] (fun c i wr => ∃ k : Nat, k ≤ 4 ∧ c = .int .u64 (br f g k) ∧ i = .int .i64 k ∧ Row wr w.heap.size 42 4 (upto k (ms f g) f) ∧ Row wr (w.heap.size + 1) 42 4 g ∧ Row wr (w.heap.size + 1 + 1) 42 4 (fun _ => 0) ∧ Below w.heap.size w wr) (fun _ i _ => 4 - (intOf i).toNat)
 case atStart => exact ⟨0, by omega, rfl, rfl, R1.congr (fun i _ => upto_zero _ _ i), R2, R3, O⟩
 case round =>
  clear R1 R2 R3 O
  obtain ⟨k, hk, rfl, rfl, R1, R2, R3, O⟩ := hrel
  by_cases hlt : k < 4
  ·have c := R1.cell (i := k) hlt
   rw [upto_at] at c
   have d := R2.cell hlt
   have e := R1.free
   have i1 : (0 : Int) ≤ (k : Int) := by omega
   have i2 : (k : Int) < 4 := by omega
   have hb := br_bd f g k
   have hr := sub64_run (f k) (g k) (br f g k) (hf k hlt) (hg k hlt) hb.1 hb.2
   have HN := hide (show br f g (k + 1) = if f k < g k + br f g k then 1 else 0 from rfl)
   have HM := hide (show ms f g k = (f k - g k - br f g k) % 18446744073709551616 from rfl)
   go_wp2_with fail
   go_region_with fail
   all_goals
    go_wp2
    exact ⟨⟨k + 1, by omega, by rw [HN.out], by go_num, rowD ((R1.set k ((f k - g k - br f g k) % 18446744073709551616)).congr (fun i _ => upto_next k _ _ HM.out i)), rowD (R2.other (a := ⟨w.heap.size, k, none⟩) (by simp) _), rowD (R3.other (a := ⟨w.heap.size, k, none⟩) (by simp <;> omega) _), (O.setCell (p := ⟨w.heap.size, k, none⟩) (Nat.le_refl _) _).drew⟩, by simp [intOf]; omega⟩
  ·have hk' : k = 4 := by omega
   subst hk'
   replace R1 := R1.congr (f' := ms f g) (fun i hi => upto_end _ _ i hi)
   have RR := hide (R3.setAll (ms f g))
   have OO := hide (below_setCells (g := w.heap.size + 1 + 1) (by omega) (arr 4 (ms f g)).toList 0 O)
   have HX := hide R1
   clear R1 R2 O
   go_wp2_with (first | (refine wpList_load_row rfl 42 _ rfl w.heap.size rfl 42 (arr 4 (ms f g)) (0, 0) _ ?hgminus Tryz.underlying42 rfl (info42 _) ?_) | (refine wpList_store_mid rfl 42 _ _ rfl (w.heap.size + 1 + 1) 0 (arr 4 (ms f g)) rfl rfl ?thminus (info42 _) (arr_one _ _) ?_))
   case hgminus => exact HX.out
   case thminus => rw [arr_size]; exact R3.there
   exact bodyPost_ret (v := .tuple #[.agg (arr 4 (ms f g)), .int .u64 (br f g 4)]) (results_cell_tmp Tryz.results84 _ _ (w.heap.size + 1 + 1) 42 (arr 4 (ms f g)) (0, 0) _ (.int .u64 (br f g 4)) rfl rfl RR.out Tryz.underlying42 rfl (info42 _)) rfl ⟨rfl, OO.out⟩
def Lm : Int := 7237005577332262213973186563042994240857116359379907606001950938285454250989
def Lf : Nat → Int := fun i => [6346243789798364141, 1503914060200516822, 0, 1152921504606846976].getD i 0
theorem Lf_Q : Q Lf 4 = Lm := by decide +kernel
theorem Lf_wds : Wds Lf 4 := fun i hi => by
 rcases (show i = 0 ∨ i = 1 ∨ i = 2 ∨ i = 3 by omega) with rfl | rfl | rfl | rfl <;> exact ⟨by decide, by decide⟩
theorem modulus_any (w : World) : Cs 69 #[] w (.agg (arr 4 Lf)) := by
 go_enter Tryz.func69, Tryz.ntmps69
 go_wp2
 exact bodyPost_ret (v := .agg (arr 4 Lf)) (by simp [results, Tryz.results69, go_sem]; rfl) rfl ⟨rfl, (Below.refl _ _).alloc (Nat.le_refl _) _⟩
theorem once_any (f : Nat → Int) (c : Int) (w : World) (hf : Wds f 4) (hc : c = 0 ∨ c = 1) :
  Cs 125 #[.agg (arr 4 f), .int .u64 c] w (.agg (arr 4 fun i => f i * c)) := by
 go_enter Tryz.func125, Tryz.ntmps125
 go_wp2
 rw [show #[Value.int .u64 0, Value.int .u64 0, Value.int .u64 0, Value.int .u64 0] = arr 4 (fun _ => 0) from rfl]
 have R1 : Row ((w.alloc (.cells (arr 4 f) 42)).alloc (.cells (arr 4 fun _ => 0) 42)) w.heap.size 42 4 f := (Row.new w 42 4 f).alloc _
 have R3 : Row ((w.alloc (.cells (arr 4 f) 42)).alloc (.cells (arr 4 fun _ => 0) 42)) (w.heap.size + 1) 42 4 (fun _ => 0) := Row.new' _ 42 4 _ (by simp)
 have O : Below w.heap.size w ((w.alloc (.cells (arr 4 f) 42)).alloc (.cells (arr 4 fun _ => 0) 42)) := ((Below.refl _ _).alloc (Nat.le_refl _) _).alloc (by simp) _
 generalize ((w.alloc (.cells (arr 4 f) 42)).alloc (.cells (arr 4 fun _ => 0) 42)) = W at R1 R3 O ⊢
 go_loopw [6] (fun i wr => ∃ k : Nat, k ≤ 4 ∧ i = .int .i64 k ∧ Row wr w.heap.size 42 4 (upto k (fun i => f i * c) f) ∧ Row wr (w.heap.size + 1) 42 4 (fun _ => 0) ∧ Below w.heap.size w wr) (fun i _ => 4 - (intOf i).toNat)
 case atStart => exact ⟨0, by omega, rfl, R1.congr (fun i _ => upto_zero _ _ i), R3, O⟩
 case round =>
  clear R1 R3 O
  obtain ⟨k, hk, rfl, R1, R3, O⟩ := hrel
  by_cases hlt : k < 4
  ·have cc := R1.cell (i := k) hlt
   rw [upto_at] at cc
   have e := R1.free k
   have i1 : (0 : Int) ≤ (k : Int) := by omega
   have i2 : (k : Int) < 4 := by omega
   obtain ⟨f0, f1⟩ := hf k hlt
   have hw : IntKind.u64.wrap (f k * c) = f k * c := by
    rcases hc with rfl | rfl
    ·rw [Int.mul_zero]; decide
    ·rw [Int.mul_one]; exact wrap64u ⟨f0, f1⟩
   have m0 : 0 ≤ f k * c := by rcases hc with rfl | rfl <;> omega
   have m1 : f k * c < 18446744073709551616 := by rcases hc with rfl | rfl <;> omega
   have RR := hide ((R1.set k (f k * c)).congr (fun i _ => upto_next k (fun i => f i * c) f rfl i))
   have R3' := hide (R3.other (a := ⟨w.heap.size, k, none⟩) (by simp) (.int .u64 (f k * c)))
   have O' := hide (O.setCell (p := ⟨w.heap.size, k, none⟩) (Nat.le_refl _) (.int .u64 (f k * c)))
   clear R1 R3 O
   go_wp2
   go_roundw
   case rel => exact ⟨k + 1, by omega, by go_num, RR.out, R3'.out, O'.out⟩
   case measure => simp [intOf]; omega
  ·have hk' : k = 4 := by omega
   subst hk'
   replace R1 := R1.congr (f' := fun i => f i * c) (fun i hi => upto_end _ _ i hi)
   have RR := hide (R3.setAll (fun i => f i * c))
   have OO := hide (below_setCells (g := w.heap.size + 1) (by omega) (arr 4 (fun i => f i * c)).toList 0 O)
   have HX := hide R1
   clear R1 O
   go_wp2_with (first | (refine wpList_load_row rfl 42 _ rfl w.heap.size rfl 42 (arr 4 (fun i => f i * c)) (0, 0) _ ?hgo Tryz.underlying42 rfl (info42 _) ?_) | (refine wpList_store_mid rfl 42 _ _ rfl (w.heap.size + 1) 0 (arr 4 (fun i => f i * c)) rfl rfl ?tho (info42 _) (arr_one _ _) ?_))
   case hgo => exact HX.out
   case tho => rw [arr_size]; exact R3.there
   exact bodyPost_ret (v := .agg (arr 4 fun i => f i * c)) (results_cell_row Tryz.results125 _ _ (w.heap.size + 1) 42 (arr 4 (fun i => f i * c)) (0, 0) _ rfl RR.out Tryz.underlying42 rfl (info42 _)) rfl ⟨rfl, OO.out⟩
theorem Q_mul (f : Nat → Int) (c : Int) : ∀ n, Q (fun i => f i * c) n = Q f n * c
 | 0 => by simp [Q]
 | n + 1 => by
  simp only [Q]
  rw [Q_mul f c n, Int.add_mul, Int.mul_assoc, Int.mul_assoc, Int.mul_comm c]
theorem P256 : (18446744073709551616 : Int) ^ 4 = 115792089237316195423570985008687907853269984665640564039457584007913129639936 := by decide
theorem wval {X Y R T b c P L : Int} (hb : b = 0 ∨ b = 1) (hc : c = 0 ∨ c = 1) (hL : L < P) (e1 : R - b * P = X - Y) (e2 : T + c * P = R + L * b) (_r0 : 0 ≤ R) (r1 : R < P) (t0 : 0 ≤ T) (t1 : T < P) (h0 : - L ≤ X - Y) (h1 : X - Y < L) : T = (X - Y) % L := by
 rcases hb with rfl | rfl
 ·rcases hc with rfl | rfl
  ·simp only [Int.zero_mul, Int.mul_zero] at e1 e2
   rw [Int.emod_eq_of_lt (by omega) h1]
   omega
  ·simp only [Int.zero_mul, Int.mul_zero, Int.one_mul] at e1 e2
   omega
 ·rcases hc with rfl | rfl
  ·simp only [Int.zero_mul, Int.mul_one, Int.one_mul] at e1 e2
   omega
  ·simp only [Int.mul_one, Int.one_mul] at e1 e2
   have e : (X - Y) % L = (X - Y + L) % L := by rw [Int.add_emod_right]
   rw [e, Int.emod_eq_of_lt (by omega) (by omega)]
   omega
theorem Lm_P : Lm < 18446744073709551616 ^ 4 := by decide
theorem Lm_pos : 0 < Lm := by decide
theorem lmod (X : Int) : 0 ≤ X % Lm ∧ X % Lm < Lm := ⟨Int.emod_nonneg _ (by decide), Int.emod_lt_of_pos _ Lm_pos⟩
theorem dQ {X : Int} (h : 0 ≤ X ∧ X < Lm) : Q (d64 X) 4 = X := by
 have := Lm_P
 rw [d64_Q _ h.1, Int.emod_eq_of_lt h.1 (by omega)]
theorem without_val {f g : Nat → Int} (hf : Wds f 4) (hg : Wds g 4) (h0 : - Lm ≤ Q f 4 - Q g 4) (h1 : Q f 4 - Q g 4 < Lm) :
  arr 4 (ps (ms f g) (fun i => Lf i * br f g 4)) = arr 4 (d64 ((Q f 4 - Q g 4) % Lm)) := by
 have hb := br_bd f g 4
 have hb2 : br f g 4 = 0 ∨ br f g 4 = 1 := by omega
 have wl : Wds (fun i => Lf i * br f g 4) 4 := fun i hi => by
  have h := Lf_wds i hi
  show W64 (Lf i * br f g 4)
  rcases hb2 with e | e
  ·rw [e, Int.mul_zero]; exact ⟨by decide, by decide⟩
  ·rw [e, Int.mul_one]; exact h
 have e1 := ms_Q hf hg 4 (by omega)
 have e2 := ps_Q (ms f g) (fun i => Lf i * br f g 4) 4
 have e3 := pc_bd (ms_wds f g 4) wl 4 (by omega)
 have b1 := Q_bd (ms_wds f g 4)
 have b2 := Q_bd (ps_wds (ms f g) (fun i => Lf i * br f g 4) 4)
 rw [Q_mul, Lf_Q] at e2
 refine arr_congr (Q_inj (ps_wds _ _ 4) (d64_wds _ 4) ?_)
 rw [dQ (lmod _)]
 exact wval hb2 (by omega) Lm_P e1 e2 b1.1 b1.2 b2.1 b2.2 h0 h1
theorem wpList_build {P : Program} {ops : Array Oper} {rest : List Oper} {o : Oper} {a : Act} {w : World} {Q : Exit → Act → World → Prop} (hg : o.guard = none) (ty : TypeId) (parts : Array (Nat × Operand)) (_ho : o.op = .build ty parts) (cs : Array Value)
  (hrun : (execOp a.eval o).run P w = .ok (.value (.agg cs)) w) (h : wpList P ops Q rest (a.put o.dst (.agg cs)) w) : wpList P ops Q (o :: rest) a w :=
 wpList_plain hg fun K hK => by
  unfold Oper.wp
  rw [hrun]
  exact hK _ _ h
theorem without_gen (f g r l t : Nat → Int) (b c : Int) (w : World)
  (H0 : ∀ w, Cs 84 #[.agg (arr 4 f), .agg (arr 4 g)] w (.tuple #[.agg (arr 4 r), .int .u64 b]))
  (H2 : ∀ w, Cs 125 #[.agg (arr 4 Lf), .int .u64 b] w (.agg (arr 4 l)))
  (H3 : ∀ w, Cs 67 #[.agg (arr 4 r), .agg (arr 4 l)] w (.tuple #[.agg (arr 4 t), .int .u64 c])) :
  Cs 68 #[.agg (arr 4 f), .agg (arr 4 g)] w (.agg (arr 4 t)) := by
 have C0 := hide H0
 have C1 := hide modulus_any
 have C2 := hide H2
 have C3 := hide H3
 clear H0 H2 H3
 have R1 : Row (((w.alloc (.cells (arr 4 f) 42)).alloc (.cells (arr 4 g) 42)).alloc (.cells (arr 4 fun _ => 0) 44)) w.heap.size 42 4 f := ((Row.new w 42 4 f).alloc _).alloc _
 have R2 : Row (((w.alloc (.cells (arr 4 f) 42)).alloc (.cells (arr 4 g) 42)).alloc (.cells (arr 4 fun _ => 0) 44)) (w.heap.size + 1) 42 4 g := (Row.new' _ 42 4 _ (by simp)).alloc _
 have R3 : Row (((w.alloc (.cells (arr 4 f) 42)).alloc (.cells (arr 4 g) 42)).alloc (.cells (arr 4 fun _ => 0) 44)) (w.heap.size + 1 + 1) 44 4 (fun _ => 0) := Row.new' _ 44 4 _ (by simp)
 have O : Below w.heap.size w (((w.alloc (.cells (arr 4 f) 42)).alloc (.cells (arr 4 g) 42)).alloc (.cells (arr 4 fun _ => 0) 44)) := (((Below.refl _ _).alloc (Nat.le_refl _) _).alloc (by simp) _).alloc (by simp; omega) _
 have HR := hide (And.intro R1 (And.intro R2 (And.intro R3 O)))
 clear R1 R2 R3 O
 go_enter Tryz.func68, Tryz.ntmps68
 go_wp2_with (first | (refine wpList_load_row rfl 42 _ rfl w.heap.size rfl 42 (arr 4 f) (0, 0) _ HR.out.1 Tryz.underlying42 rfl (info42 _) ?_) | (refine wpList_load_row rfl 42 _ rfl (w.heap.size + 1) rfl 42 (arr 4 g) (0, 0) _ HR.out.2.1 Tryz.underlying42 rfl (info42 _) ?_))
 rw [show #[Value.int .u64 0, Value.int .u64 0, Value.int .u64 0, Value.int .u64 0] = arr 4 (fun _ => 0) from rfl]
 obtain ⟨R1, R2, R3, O⟩ := HR.out
 clear HR R1 R2
 generalize (((w.alloc (.cells (arr 4 f) 42)).alloc (.cells (arr 4 g) 42)).alloc (.cells (arr 4 fun _ => 0) 44)) = W at R3 O ⊢
 refine (C0.out _).mono ?_
 rintro _ w1 ⟨rfl, hb1⟩
 replace R3 := R3.keep hb1
 replace O := O.trans (hb1.mono O.size)
 clear hb1
 have RC : Row (w1.alloc (.cells #[Value.int .u64 0, Value.int .u64 0, Value.int .u64 0, Value.int .u64 0] 42)) w1.heap.size 42 4 (fun _ => 0) := Row.new w1 42 4 (fun _ => 0)
 have gl := R3.lt
 have RR := hide (RC.setAll r)
 have BB := below_setCells (g := w1.heap.size) (Nat.le_refl _) (arr 4 r).toList 0 (new_below w1 (.cells #[Value.int .u64 0, Value.int .u64 0, Value.int .u64 0, Value.int .u64 0] 42))
 have R3' := hide (R3.keep BB)
 have O' := hide (O.trans (BB.mono O.size))
 clear R3 O BB
 go_wp2_with (refine wpList_store_mid rfl 42 _ _ rfl w1.heap.size 0 (arr 4 r) rfl rfl ?thr (info42 _) (arr_one _ _) ?_)
 case thr => rw [arr_size]; exact RC.there
 have R3 := R3'.out
 have O := O'.out
 replace RC := RR.out
 clear R3' O' RR
 generalize w1.heap.size = gc at *
 generalize (w1.alloc (.cells #[Value.int .u64 0, Value.int .u64 0, Value.int .u64 0, Value.int .u64 0] 42)).setCells gc 0 (arr 4 r).toList = W2 at *
 refine region_cut (fun a0 a' w' => a' = (((((((a0.put (some 14) (.agg (arr 4 r))).put (some 15) (.agg (arr 4 Lf))).put (some 16) (.int .u64 b)).put (some 17) (.agg (arr 4 l))).put (some 18) (.tuple #[.agg (arr 4 t), .int .u64 c])).put (some 13) (.tuple #[.agg (arr 4 t), .int .u64 c])).put (some 19) (.agg (arr 4 t))).put (some 20) (.int .u64 c) ∧ Row w' gc 42 4 t ∧ Row w' (w.heap.size + 1 + 1) 44 4 (fun _ => 0) ∧ Below w.heap.size w w') (by kernel_rfl) ?_ ?_
 ·clear RC R3 O
  rintro _ w8 ⟨rfl, RC, R3, O⟩
  have RR := hide (R3.setAll t)
  have OO := hide (below_setCells (g := w.heap.size + 1 + 1) (by omega) (arr 4 t).toList 0 O)
  have HX := hide RC
  clear RC O
  go_simp
  go_wp2_with (first | (refine wpList_load_row rfl 42 _ rfl gc rfl 42 (arr 4 t) (0, 0) _ ?hgt Tryz.underlying42 rfl (info42 _) ?_) | (refine wpList_build rfl 44 _ rfl (arr 4 t) (by kernel_rfl) ?_) | (refine wpList_store_mid rfl 44 _ _ rfl (w.heap.size + 1 + 1) 0 (arr 4 t) rfl rfl ?tht (info44 _) (arr_one _ _) ?_))
  case hgt => exact HX.out
  case tht => rw [arr_size]; exact R3.there
  exact bodyPost_ret (v := .agg (arr 4 t)) (results_cell_row Tryz.results68 _ _ (w.heap.size + 1 + 1) 44 (arr 4 t) (0, 0) _ rfl RR.out Tryz.underlying44 rfl (info44 _)) rfl ⟨rfl, OO.out⟩
 ·intro hrest
  replace RC := rowD RC
  replace R3 := rowD R3
  replace O := O.drew
  generalize W2.drew = W0 at *
  refine wpAny_take (i := 2) (v := .int .u64 b) rfl (by kernel_rfl) (by kernel_rfl) (by kernel_rfl) (fun _ _ _ h => h) (Or.inl ⟨by rfl, fun _ => by kernel_rfl⟩) ?_
  refine wpAny_ready (rs := [0, 1]) (by kernel_rfl) (by simp) ?_
  refine ready_load rfl rfl 42 _ rfl gc (by kernel_rfl) 42 (arr 4 r) (0, 0) _ RC Tryz.underlying42 rfl (info42 _) ?_ ?_
  ·skip
   refine wpAny_ready (rs := [1]) (by kernel_rfl) (by simp) ?_
   refine ready_call 69 #[] rfl rfl (by kernel_rfl) ?_ ?_
   ·refine (C1.out _).mono ?_
    rintro _ w102 ⟨rfl, hb102⟩
    refine ⟨_, rfl, ?_⟩
    replace R3 := R3.keep hb102
    replace RC := RC.keep hb102
    replace O := O.trans (hb102.mono O.size)
    clear hb102
    refine wpAny_ready (rs := [3]) (by kernel_rfl) (by simp) ?_
    refine ready_call 125 #[.agg (arr 4 Lf), .int .u64 b] rfl rfl (by kernel_rfl) ?_ ?_
    ·refine (C2.out _).mono ?_
     rintro _ w103 ⟨rfl, hb103⟩
     refine ⟨_, rfl, ?_⟩
     replace R3 := R3.keep hb103
     replace RC := RC.keep hb103
     replace O := O.trans (hb103.mono O.size)
     clear hb103
     refine wpAny_ready (rs := [4]) (by kernel_rfl) (by simp) ?_
     refine ready_call 67 #[.agg (arr 4 r), .agg (arr 4 l)] rfl rfl (by kernel_rfl) ?_ ?_
     ·refine (C3.out _).mono ?_
      rintro _ w104 ⟨rfl, hb104⟩
      refine ⟨_, rfl, ?_⟩
      replace R3 := R3.keep hb104
      replace RC := RC.keep hb104
      replace O := O.trans (hb104.mono O.size)
      clear hb104
      refine wpAny_take (i := 5) (v := .tuple #[.agg (arr 4 t), .int .u64 c]) rfl (by kernel_rfl) (by kernel_rfl) (by kernel_rfl) (fun _ _ _ h => h) (Or.inl ⟨by rfl, fun _ => by kernel_rfl⟩) ?_
      refine wpAny_take (i := 6) (v := .agg (arr 4 t)) rfl (by kernel_rfl) (by kernel_rfl) (by kernel_rfl) (fun _ _ _ h => h) (Or.inl ⟨by rfl, fun _ => by kernel_rfl⟩) ?_
      refine wpAny_take (i := 7) (v := .int .u64 c) rfl (by kernel_rfl) (by kernel_rfl) (by kernel_rfl) (fun _ _ _ h => h) (Or.inl ⟨by rfl, fun _ => by kernel_rfl⟩) ?_
      refine wpAny_ready (rs := [8]) (by kernel_rfl) (by simp) ?_
      refine ready_store rfl rfl 42 _ _ rfl gc 0 (arr 4 t) (by kernel_rfl) (by kernel_rfl) (by rw [arr_size]; exact RC.there) (info42 _) (arr_one _ _) ?_ ?_
      ·skip
       exact wpAny_done (by kernel_rfl) (hrest _ _ ⟨by kernel_rfl, RC.setAll _, R3.setOther (by omega) _ _, below_setCells (by omega) _ _ O⟩) _
      exact AllReady.nil
     exact AllReady.nil
    exact AllReady.nil
   exact AllReady.nil
  refine ready_call 69 #[] rfl rfl (by kernel_rfl) ?_ ?_
  ·refine (C1.out _).mono ?_
   rintro _ w106 ⟨rfl, hb106⟩
   refine ⟨_, rfl, ?_⟩
   replace R3 := R3.keep hb106
   replace RC := RC.keep hb106
   replace O := O.trans (hb106.mono O.size)
   clear hb106
   refine wpAny_ready (rs := [0, 3]) (by kernel_rfl) (by simp) ?_
   refine ready_load rfl rfl 42 _ rfl gc (by kernel_rfl) 42 (arr 4 r) (0, 0) _ RC Tryz.underlying42 rfl (info42 _) ?_ ?_
   ·skip
    refine wpAny_ready (rs := [3]) (by kernel_rfl) (by simp) ?_
    refine ready_call 125 #[.agg (arr 4 Lf), .int .u64 b] rfl rfl (by kernel_rfl) ?_ ?_
    ·refine (C2.out _).mono ?_
     rintro _ w108 ⟨rfl, hb108⟩
     refine ⟨_, rfl, ?_⟩
     replace R3 := R3.keep hb108
     replace RC := RC.keep hb108
     replace O := O.trans (hb108.mono O.size)
     clear hb108
     refine wpAny_ready (rs := [4]) (by kernel_rfl) (by simp) ?_
     refine ready_call 67 #[.agg (arr 4 r), .agg (arr 4 l)] rfl rfl (by kernel_rfl) ?_ ?_
     ·refine (C3.out _).mono ?_
      rintro _ w109 ⟨rfl, hb109⟩
      refine ⟨_, rfl, ?_⟩
      replace R3 := R3.keep hb109
      replace RC := RC.keep hb109
      replace O := O.trans (hb109.mono O.size)
      clear hb109
      refine wpAny_take (i := 5) (v := .tuple #[.agg (arr 4 t), .int .u64 c]) rfl (by kernel_rfl) (by kernel_rfl) (by kernel_rfl) (fun _ _ _ h => h) (Or.inl ⟨by rfl, fun _ => by kernel_rfl⟩) ?_
      refine wpAny_take (i := 6) (v := .agg (arr 4 t)) rfl (by kernel_rfl) (by kernel_rfl) (by kernel_rfl) (fun _ _ _ h => h) (Or.inl ⟨by rfl, fun _ => by kernel_rfl⟩) ?_
      refine wpAny_take (i := 7) (v := .int .u64 c) rfl (by kernel_rfl) (by kernel_rfl) (by kernel_rfl) (fun _ _ _ h => h) (Or.inl ⟨by rfl, fun _ => by kernel_rfl⟩) ?_
      refine wpAny_ready (rs := [8]) (by kernel_rfl) (by simp) ?_
      refine ready_store rfl rfl 42 _ _ rfl gc 0 (arr 4 t) (by kernel_rfl) (by kernel_rfl) (by rw [arr_size]; exact RC.there) (info42 _) (arr_one _ _) ?_ ?_
      ·skip
       exact wpAny_done (by kernel_rfl) (hrest _ _ ⟨by kernel_rfl, RC.setAll _, R3.setOther (by omega) _ _, below_setCells (by omega) _ _ O⟩) _
      exact AllReady.nil
     exact AllReady.nil
    exact AllReady.nil
   refine ready_call 125 #[.agg (arr 4 Lf), .int .u64 b] rfl rfl (by kernel_rfl) ?_ ?_
   ·refine (C2.out _).mono ?_
    rintro _ w111 ⟨rfl, hb111⟩
    refine ⟨_, rfl, ?_⟩
    replace R3 := R3.keep hb111
    replace RC := RC.keep hb111
    replace O := O.trans (hb111.mono O.size)
    clear hb111
    refine wpAny_ready (rs := [0]) (by kernel_rfl) (by simp) ?_
    refine ready_load rfl rfl 42 _ rfl gc (by kernel_rfl) 42 (arr 4 r) (0, 0) _ RC Tryz.underlying42 rfl (info42 _) ?_ ?_
    ·skip
     refine wpAny_ready (rs := [4]) (by kernel_rfl) (by simp) ?_
     refine ready_call 67 #[.agg (arr 4 r), .agg (arr 4 l)] rfl rfl (by kernel_rfl) ?_ ?_
     ·refine (C3.out _).mono ?_
      rintro _ w113 ⟨rfl, hb113⟩
      refine ⟨_, rfl, ?_⟩
      replace R3 := R3.keep hb113
      replace RC := RC.keep hb113
      replace O := O.trans (hb113.mono O.size)
      clear hb113
      refine wpAny_take (i := 5) (v := .tuple #[.agg (arr 4 t), .int .u64 c]) rfl (by kernel_rfl) (by kernel_rfl) (by kernel_rfl) (fun _ _ _ h => h) (Or.inl ⟨by rfl, fun _ => by kernel_rfl⟩) ?_
      refine wpAny_take (i := 6) (v := .agg (arr 4 t)) rfl (by kernel_rfl) (by kernel_rfl) (by kernel_rfl) (fun _ _ _ h => h) (Or.inl ⟨by rfl, fun _ => by kernel_rfl⟩) ?_
      refine wpAny_take (i := 7) (v := .int .u64 c) rfl (by kernel_rfl) (by kernel_rfl) (by kernel_rfl) (fun _ _ _ h => h) (Or.inl ⟨by rfl, fun _ => by kernel_rfl⟩) ?_
      refine wpAny_ready (rs := [8]) (by kernel_rfl) (by simp) ?_
      refine ready_store rfl rfl 42 _ _ rfl gc 0 (arr 4 t) (by kernel_rfl) (by kernel_rfl) (by rw [arr_size]; exact RC.there) (info42 _) (arr_one _ _) ?_ ?_
      ·skip
       exact wpAny_done (by kernel_rfl) (hrest _ _ ⟨by kernel_rfl, RC.setAll _, R3.setOther (by omega) _ _, below_setCells (by omega) _ _ O⟩) _
      exact AllReady.nil
     exact AllReady.nil
    exact AllReady.nil
   exact AllReady.nil
  exact AllReady.nil
theorem without_any (f g : Nat → Int) (w : World) (hf : Wds f 4) (hg : Wds g 4) (h0 : - Lm ≤ Q f 4 - Q g 4) (h1 : Q f 4 - Q g 4 < Lm) :
  Cs 68 #[.agg (arr 4 f), .agg (arr 4 g)] w (.agg (arr 4 (d64 ((Q f 4 - Q g 4) % Lm)))) := by
 have hb := br_bd f g 4
 have hb2 : br f g 4 = 0 ∨ br f g 4 = 1 := by omega
 have wl : Wds (fun i => Lf i * br f g 4) 4 := fun i hi => by
  have h := Lf_wds i hi
  show W64 (Lf i * br f g 4)
  rcases hb2 with e | e
  ·rw [e, Int.mul_zero]; exact ⟨by decide, by decide⟩
  ·rw [e, Int.mul_one]; exact h
 have := without_gen f g (ms f g) (fun i => Lf i * br f g 4) (ps (ms f g) (fun i => Lf i * br f g 4)) (br f g 4) (pc (ms f g) (fun i => Lf i * br f g 4) 4) w
  (fun w => minus_any f g w hf hg) (fun w => once_any Lf _ w Lf_wds hb2) (fun w => plus_any _ _ w (ms_wds f g 4) wl)
 rwa [without_val hf hg h0 h1] at this
theorem add_gen (M N V c : Int) (r : Nat → Int) (w : World)
  (H0 : ∀ w, Cs 67 #[.agg (arr 4 (d64 M)), .agg (arr 4 (d64 N))] w (.tuple #[.agg (arr 4 r), .int .u64 c]))
  (H2 : ∀ w, Cs 68 #[.agg (arr 4 r), .agg (arr 4 Lf)] w (.agg (arr 4 (d64 V)))) :
  Cs 28 #[.agg (arr 4 (d64 M)), .agg (arr 4 (d64 N))] w (.agg (arr 4 (d64 V))) := by
 have C0 := hide H0
 have C1 := hide modulus_any
 have C2 := hide H2
 clear H0 H2
 have R1 : Row (((w.alloc (.cells (arr 4 (d64 M)) 44)).alloc (.cells (arr 4 (d64 N)) 44)).alloc (.cells (arr 4 fun _ => 0) 44)) w.heap.size 44 4 (d64 M) := ((Row.new w 44 4 _).alloc _).alloc _
 have R2 : Row (((w.alloc (.cells (arr 4 (d64 M)) 44)).alloc (.cells (arr 4 (d64 N)) 44)).alloc (.cells (arr 4 fun _ => 0) 44)) (w.heap.size + 1) 44 4 (d64 N) := (Row.new' _ 44 4 _ (by simp)).alloc _
 have R3 : Row (((w.alloc (.cells (arr 4 (d64 M)) 44)).alloc (.cells (arr 4 (d64 N)) 44)).alloc (.cells (arr 4 fun _ => 0) 44)) (w.heap.size + 1 + 1) 44 4 (fun _ => 0) := Row.new' _ 44 4 _ (by simp)
 have O : Below w.heap.size w (((w.alloc (.cells (arr 4 (d64 M)) 44)).alloc (.cells (arr 4 (d64 N)) 44)).alloc (.cells (arr 4 fun _ => 0) 44)) := (((Below.refl _ _).alloc (Nat.le_refl _) _).alloc (by simp) _).alloc (by simp; omega) _
 have HR := hide (And.intro R1 (And.intro R2 (And.intro R3 O)))
 clear R1 R2 R3 O
 go_enter Tryz.func28, Tryz.ntmps28
 go_wp2_with (first | (refine wpList_load_row rfl 42 _ rfl w.heap.size rfl 44 (arr 4 (d64 M)) (0, 0) _ HR.out.1 Tryz.underlying42 rfl (info42 _) ?_) | (refine wpList_load_row rfl 42 _ rfl (w.heap.size + 1) rfl 44 (arr 4 (d64 N)) (0, 0) _ HR.out.2.1 Tryz.underlying42 rfl (info42 _) ?_))
 rw [show #[Value.int .u64 0, Value.int .u64 0, Value.int .u64 0, Value.int .u64 0] = arr 4 (fun _ => 0) from rfl]
 obtain ⟨R1, R2, R3, O⟩ := HR.out
 clear HR R1 R2
 generalize (((w.alloc (.cells (arr 4 (d64 M)) 44)).alloc (.cells (arr 4 (d64 N)) 44)).alloc (.cells (arr 4 fun _ => 0) 44)) = W at R3 O ⊢
 refine (C0.out _).mono ?_
 rintro _ w1 ⟨rfl, hb1⟩
 replace R3 := R3.keep hb1
 replace O := O.trans (hb1.mono O.size)
 clear hb1
 have RC : Row (w1.alloc (.cells #[Value.int .u64 0, Value.int .u64 0, Value.int .u64 0, Value.int .u64 0] 42)) w1.heap.size 42 4 (fun _ => 0) := Row.new w1 42 4 (fun _ => 0)
 have gl := R3.lt
 have RR := hide (RC.setAll r)
 have BB := below_setCells (g := w1.heap.size) (Nat.le_refl _) (arr 4 r).toList 0 (new_below w1 (.cells #[Value.int .u64 0, Value.int .u64 0, Value.int .u64 0, Value.int .u64 0] 42))
 have R3' := hide (R3.keep BB)
 have O' := hide (O.trans (BB.mono O.size))
 clear R3 O BB
 go_wp2_with (refine wpList_store_mid rfl 42 _ _ rfl w1.heap.size 0 (arr 4 r) rfl rfl ?thr (info42 _) (arr_one _ _) ?_)
 case thr => rw [arr_size]; exact RC.there
 have R3 := R3'.out
 have O := O'.out
 replace RC := RR.out
 clear R3' O' RR
 generalize w1.heap.size = gc at *
 generalize (w1.alloc (.cells #[Value.int .u64 0, Value.int .u64 0, Value.int .u64 0, Value.int .u64 0] 42)).setCells gc 0 (arr 4 r).toList = W2 at *
 refine region_cut (fun a0 a' w' => a' = ((a0.put (some 15) (.agg (arr 4 r))).put (some 16) (.agg (arr 4 Lf))).put (some 17) (.agg (arr 4 (d64 V))) ∧ Row w' (w.heap.size + 1 + 1) 44 4 (d64 V) ∧ Below w.heap.size w w') (by kernel_rfl) ?_ ?_
 ·clear RC R3 O
  rintro _ w8 ⟨rfl, R3, O⟩
  go_simp
  go_wp2
  exact bodyPost_ret (v := .agg (arr 4 (d64 V))) (results_cell_row Tryz.results28 _ _ (w.heap.size + 1 + 1) 44 (arr 4 (d64 V)) (0, 0) _ rfl R3 Tryz.underlying44 rfl (info44 _)) rfl ⟨rfl, O⟩
 ·intro hrest
  replace RC := rowD RC
  replace R3 := rowD R3
  replace O := O.drew
  generalize W2.drew = W0 at *
  refine wpAny_ready (rs := [0, 1]) (by kernel_rfl) (by simp) ?_
  refine ready_load rfl rfl 42 _ rfl gc (by kernel_rfl) 42 (arr 4 r) (0, 0) _ RC Tryz.underlying42 rfl (info42 _) ?_ ?_
  ·skip
   refine wpAny_ready (rs := [1]) (by kernel_rfl) (by simp) ?_
   refine ready_call 69 #[] rfl rfl (by kernel_rfl) ?_ ?_
   ·refine (C1.out _).mono ?_
    rintro _ w102 ⟨rfl, hb102⟩
    refine ⟨_, rfl, ?_⟩
    replace R3 := R3.keep hb102
    replace RC := RC.keep hb102
    replace O := O.trans (hb102.mono O.size)
    clear hb102
    refine wpAny_ready (rs := [2]) (by kernel_rfl) (by simp) ?_
    refine ready_call 68 #[.agg (arr 4 r), .agg (arr 4 Lf)] rfl rfl (by kernel_rfl) ?_ ?_
    ·refine (C2.out _).mono ?_
     rintro _ w103 ⟨rfl, hb103⟩
     refine ⟨_, rfl, ?_⟩
     replace R3 := R3.keep hb103
     replace RC := RC.keep hb103
     replace O := O.trans (hb103.mono O.size)
     clear hb103
     refine wpAny_ready (rs := [3]) (by kernel_rfl) (by simp) ?_
     refine ready_store rfl rfl 44 _ _ rfl (w.heap.size + 1 + 1) 0 (arr 4 (d64 V)) (by kernel_rfl) (by kernel_rfl) (by rw [arr_size]; exact R3.there) (info44 _) (arr_one _ _) ?_ ?_
     ·skip
      exact wpAny_done (by kernel_rfl) (hrest _ _ ⟨by kernel_rfl, R3.setAll _, below_setCells (by omega) _ _ O⟩) _
     exact AllReady.nil
    exact AllReady.nil
   exact AllReady.nil
  refine ready_call 69 #[] rfl rfl (by kernel_rfl) ?_ ?_
  ·refine (C1.out _).mono ?_
   rintro _ w105 ⟨rfl, hb105⟩
   refine ⟨_, rfl, ?_⟩
   replace R3 := R3.keep hb105
   replace RC := RC.keep hb105
   replace O := O.trans (hb105.mono O.size)
   clear hb105
   refine wpAny_ready (rs := [0]) (by kernel_rfl) (by simp) ?_
   refine ready_load rfl rfl 42 _ rfl gc (by kernel_rfl) 42 (arr 4 r) (0, 0) _ RC Tryz.underlying42 rfl (info42 _) ?_ ?_
   ·skip
    refine wpAny_ready (rs := [2]) (by kernel_rfl) (by simp) ?_
    refine ready_call 68 #[.agg (arr 4 r), .agg (arr 4 Lf)] rfl rfl (by kernel_rfl) ?_ ?_
    ·refine (C2.out _).mono ?_
     rintro _ w107 ⟨rfl, hb107⟩
     refine ⟨_, rfl, ?_⟩
     replace R3 := R3.keep hb107
     replace RC := RC.keep hb107
     replace O := O.trans (hb107.mono O.size)
     clear hb107
     refine wpAny_ready (rs := [3]) (by kernel_rfl) (by simp) ?_
     refine ready_store rfl rfl 44 _ _ rfl (w.heap.size + 1 + 1) 0 (arr 4 (d64 V)) (by kernel_rfl) (by kernel_rfl) (by rw [arr_size]; exact R3.there) (info44 _) (arr_one _ _) ?_ ?_
     ·skip
      exact wpAny_done (by kernel_rfl) (hrest _ _ ⟨by kernel_rfl, R3.setAll _, below_setCells (by omega) _ _ O⟩) _
     exact AllReady.nil
    exact AllReady.nil
   exact AllReady.nil
  exact AllReady.nil
theorem add_any (M N : Int) (w : World) (hM : 0 ≤ M ∧ M < Lm) (hN : 0 ≤ N ∧ N < Lm) :
  Cs 28 #[.agg (arr 4 (d64 M)), .agg (arr 4 (d64 N))] w (.agg (arr 4 (d64 ((M + N) % Lm)))) := by
 have e := ps_Q (d64 M) (d64 N) 4
 have hc := pc_bd (d64_wds M 4) (d64_wds N 4) 4 (by omega)
 have hb := Q_bd (ps_wds (d64 M) (d64 N) 4)
 rw [dQ hM, dQ hN] at e
 rw [P256] at e hb
 have hs : Q (ps (d64 M) (d64 N)) 4 = M + N := by
  unfold Lm at *
  omega
 have hv : (Q (ps (d64 M) (d64 N)) 4 - Q Lf 4) % Lm = (M + N) % Lm := by rw [hs, Lf_Q, Int.sub_emod_right]
 refine add_gen M N _ _ _ w (fun w => plus_any _ _ w (d64_wds M 4) (d64_wds N 4)) (fun w => ?_)
 have := without_any (ps (d64 M) (d64 N)) Lf w (ps_wds _ _ 4) Lf_wds (by rw [hs, Lf_Q]; omega) (by rw [hs, Lf_Q]; omega)
 rwa [hv] at this
theorem nx_or {x y : Int} (_hx : W64 x) (hy : 0 ≤ y) (hy1 : y < 4294967296) : bits BinOp.or IntKind.u64 (IntKind.u64.wrap (x * 4294967296)) y = x * 4294967296 % 18446744073709551616 + y := by
 rw [IntKind.wrap_u64, or_join 32 4294967296 (by decide) ⟨by omega, by omega⟩ ⟨by omega, by omega⟩ (by omega) (by omega)]
theorem nx_and {x : Int} (hx : W64 x) : bits BinOp.and IntKind.u64 x 268435455 = x % 268435456 := by
 obtain ⟨h0, h1⟩ := hx
 rw [u64_and x _ h0 (by omega) (by decide) (by decide)]
 have e : (268435455 : Int).toNat = 268435455 := by decide
 have e2 : x.toNat &&& 268435455 = x.toNat % 268435456 := Nat.and_two_pow_sub_one_eq_mod _ 28
 rw [e, e2]
 omega
theorem next_gen (x0 x1 x2 x3 H : Int) (t : Nat → Int) (w : World) (k0 : W64 x0) (k1 : W64 x1) (k2 : W64 x2) (k3 : W64 x3) (h0 : 0 ≤ H) (h1 : H < 4294967296)
  (HC : ∀ w, Cs 68 #[.agg #[.int .u64 (x0 * 4294967296 % 18446744073709551616 + H), .int .u64 (x1 * 4294967296 % 18446744073709551616 + x0 / 4294967296), .int .u64 (x2 * 4294967296 % 18446744073709551616 + x1 / 4294967296), .int .u64 (x3 % 268435456 * 4294967296 + x2 / 4294967296)], .agg #[.int .u64 (x3 / 268435456 * 6346243789798364141 % 18446744073709551616), .int .u64 ((x3 / 268435456 * 1503914060200516822 + x3 / 268435456 * 6346243789798364141 / 18446744073709551616) % 18446744073709551616), .int .u64 ((x3 / 268435456 * 1503914060200516822 + x3 / 268435456 * 6346243789798364141 / 18446744073709551616) / 18446744073709551616), .int .u64 0]] w (.agg (arr 4 t))) :
  Cs 127 #[.agg #[.int .u64 x0, .int .u64 x1, .int .u64 x2, .int .u64 x3], .int .u64 H] w (.agg (arr 4 t)) := by
 have e0 := nx_or k0 h0 h1
 have e1 := nx_or k1 (y := x0 / 4294967296) (by unfold W64 at *; omega) (by unfold W64 at *; omega)
 have e2 := nx_or k2 (y := x1 / 4294967296) (by unfold W64 at *; omega) (by unfold W64 at *; omega)
 have e3 := nx_and k3
 have e4 : bits BinOp.or IntKind.u64 (x3 % 268435456 * 4294967296) (x2 / 4294967296) = x3 % 268435456 * 4294967296 + x2 / 4294967296 := by
  unfold W64 at *
  rw [or_join 32 4294967296 (by decide) ⟨by omega, by omega⟩ ⟨by omega, by omega⟩ (by omega) (by omega)]
 have q0 : W64 (x3 / 268435456) := by unfold W64 at *; omega
 have C := hide HC
 have c1 : W64 (x3 / 268435456 * 6346243789798364141 / 18446744073709551616) := by unfold W64 at *; omega
 have p1 := fun w => productAnd_any (x3 / 268435456) 6346243789798364141 0 0 w q0 ⟨by decide, by decide⟩ ⟨by decide, by decide⟩ ⟨by decide, by decide⟩
 have p2 := fun w => productAnd_any (x3 / 268435456) 1503914060200516822 (x3 / 268435456 * 6346243789798364141 / 18446744073709551616) 0 w q0 ⟨by decide, by decide⟩ c1 ⟨by decide, by decide⟩
 simp only [Int.add_zero] at p1 p2
 have P1 := hide p1
 have P2 := hide p2
 clear HC p1 p2 c1
 have O : Below w.heap.size w ((((w.alloc (.cells #[.int .u64 x0, .int .u64 x1, .int .u64 x2, .int .u64 x3] 44)).alloc (.cells #[.int .u64 0, .int .u64 0, .int .u64 0, .int .u64 0] 44)).alloc (.cells #[.int .u64 x0, .int .u64 x1, .int .u64 x2, .int .u64 x3] 42)).alloc (.cells #[.int .u64 (x0 * 4294967296 % 18446744073709551616 + H), .int .u64 (x1 * 4294967296 % 18446744073709551616 + x0 / 4294967296), .int .u64 (x2 * 4294967296 % 18446744073709551616 + x1 / 4294967296), .int .u64 (x3 % 268435456 * 4294967296 + x2 / 4294967296)] 42)) := ((((Below.refl _ _).alloc (Nat.le_refl _) _).alloc (by simp) _).alloc (by simp; omega) _).alloc (by simp; omega) _
 have R3 : Row ((((w.alloc (.cells #[.int .u64 x0, .int .u64 x1, .int .u64 x2, .int .u64 x3] 44)).alloc (.cells #[.int .u64 0, .int .u64 0, .int .u64 0, .int .u64 0] 44)).alloc (.cells #[.int .u64 x0, .int .u64 x1, .int .u64 x2, .int .u64 x3] 42)).alloc (.cells #[.int .u64 (x0 * 4294967296 % 18446744073709551616 + H), .int .u64 (x1 * 4294967296 % 18446744073709551616 + x0 / 4294967296), .int .u64 (x2 * 4294967296 % 18446744073709551616 + x1 / 4294967296), .int .u64 (x3 % 268435456 * 4294967296 + x2 / 4294967296)] 42)) (w.heap.size + 1) 44 4 (fun _ => 0) := ((Row.new' _ 44 4 (fun _ => 0) (by simp)).alloc _).alloc _
 have HO := hide (And.intro O R3)
 clear O R3
 go_enter Tryz.func127, Tryz.ntmps127
 go_wp2_with fail
 refine (P1.out _).mono ?_
 rintro _ w1 ⟨rfl, rfl⟩
 go_wp2_with fail
 refine (P2.out _).mono ?_
 rintro _ w2 ⟨rfl, rfl⟩
 go_wp2_with fail
 refine (C.out _).mono ?_
 rintro _ w3 ⟨rfl, hb⟩
 have R3 := HO.out.2.keep hb
 have O := HO.out.1.trans (hb.mono HO.out.1.size)
 clear hb HO C P1 P2 e0 e1 e2 e3 e4
 have RR := hide (R3.setAll t)
 have OO := hide (below_setCells (g := w.heap.size + 1) (by omega) (arr 4 t).toList 0 O)
 clear O
 go_wp2_with (refine wpList_store_mid rfl 44 _ _ rfl (w.heap.size + 1) 0 (arr 4 t) rfl rfl ?thn (info44 _) (arr_one _ _) ?_)
 case thn => rw [arr_size]; exact R3.there
 exact bodyPost_ret (v := .agg (arr 4 t)) (results_cell_row Tryz.results127 _ _ (w.heap.size + 1) 44 (arr 4 t) (0, 0) _ rfl RR.out Tryz.underlying44 rfl (info44 _)) rfl ⟨rfl, OO.out⟩
theorem Q4 (f : Nat → Int) : Q f 4 = f 0 + f 1 * 18446744073709551616 + f 2 * 340282366920938463463374607431768211456 + f 3 * 6277101735386680763835789423207666416102355444464034512896 := by
 simp [Q]
def nf (x0 x1 x2 x3 H : Int) : Nat → Int := fun i => [x0 * 4294967296 % 18446744073709551616 + H, x1 * 4294967296 % 18446744073709551616 + x0 / 4294967296, x2 * 4294967296 % 18446744073709551616 + x1 / 4294967296, x3 % 268435456 * 4294967296 + x2 / 4294967296].getD i 0
def ng (o : Int) : Nat → Int := fun i => [o * 6346243789798364141 % 18446744073709551616, (o * 1503914060200516822 + o * 6346243789798364141 / 18446744073709551616) % 18446744073709551616, (o * 1503914060200516822 + o * 6346243789798364141 / 18446744073709551616) / 18446744073709551616, 0].getD i 0
theorem nf_Q (x0 x1 x2 x3 H : Int) : Q (nf x0 x1 x2 x3 H) 4 = (x0 + x1 * 18446744073709551616 + x2 * 340282366920938463463374607431768211456 + x3 % 268435456 * 6277101735386680763835789423207666416102355444464034512896) * 4294967296 + H := by
 rw [Q4]
 show (x0 * 4294967296 % 18446744073709551616 + H) + (x1 * 4294967296 % 18446744073709551616 + x0 / 4294967296) * 18446744073709551616 + (x2 * 4294967296 % 18446744073709551616 + x1 / 4294967296) * 340282366920938463463374607431768211456 + (x3 % 268435456 * 4294967296 + x2 / 4294967296) * 6277101735386680763835789423207666416102355444464034512896 = _
 omega
theorem ng_Q (o : Int) : Q (ng o) 4 = o * 27742317777372353535851937790883648493 := by
 rw [Q4]
 show o * 6346243789798364141 % 18446744073709551616 + ((o * 1503914060200516822 + o * 6346243789798364141 / 18446744073709551616) % 18446744073709551616) * 18446744073709551616 + ((o * 1503914060200516822 + o * 6346243789798364141 / 18446744073709551616) / 18446744073709551616) * 340282366920938463463374607431768211456 + 0 * 6277101735386680763835789423207666416102355444464034512896 = _
 omega
theorem next_any (N H : Int) (w : World) (hN : 0 ≤ N ∧ N < Lm) (h0 : 0 ≤ H) (h1 : H < 4294967296) :
  Cs 127 #[.agg (arr 4 (d64 N)), .int .u64 H] w (.agg (arr 4 (d64 ((N * 4294967296 + H) % Lm)))) := by
 have k0 := d64_wds N 4 0 (by omega)
 have k1 := d64_wds N 4 1 (by omega)
 have k2 := d64_wds N 4 2 (by omega)
 have k3 := d64_wds N 4 3 (by omega)
 have hq := dQ hN
 rw [Q4] at hq
 show Calls Tryz.prog 127 #[.agg #[.int .u64 (d64 N 0), .int .u64 (d64 N 1), .int .u64 (d64 N 2), .int .u64 (d64 N 3)], .int .u64 H] w _
 generalize d64 N 0 = x0 at *
 generalize d64 N 1 = x1 at *
 generalize d64 N 2 = x2 at *
 generalize d64 N 3 = x3 at *
 refine next_gen x0 x1 x2 x3 H _ w k0 k1 k2 k3 h0 h1 (fun w => ?_)
 unfold W64 at k0 k1 k2 k3
 have wf : Wds (nf x0 x1 x2 x3 H) 4 := fun i hi => by
  rcases (show i = 0 ∨ i = 1 ∨ i = 2 ∨ i = 3 by omega) with rfl | rfl | rfl | rfl
  ·show W64 (x0 * 4294967296 % 18446744073709551616 + H); exact ⟨by omega, by omega⟩
  ·show W64 (x1 * 4294967296 % 18446744073709551616 + x0 / 4294967296); exact ⟨by omega, by omega⟩
  ·show W64 (x2 * 4294967296 % 18446744073709551616 + x1 / 4294967296); exact ⟨by omega, by omega⟩
  ·show W64 (x3 % 268435456 * 4294967296 + x2 / 4294967296); exact ⟨by omega, by omega⟩
 have wg : Wds (ng (x3 / 268435456)) 4 := fun i hi => by
  rcases (show i = 0 ∨ i = 1 ∨ i = 2 ∨ i = 3 by omega) with rfl | rfl | rfl | rfl
  ·show W64 (x3 / 268435456 * 6346243789798364141 % 18446744073709551616); exact ⟨by omega, by omega⟩
  ·show W64 ((x3 / 268435456 * 1503914060200516822 + x3 / 268435456 * 6346243789798364141 / 18446744073709551616) % 18446744073709551616); exact ⟨by omega, by omega⟩
  ·show W64 ((x3 / 268435456 * 1503914060200516822 + x3 / 268435456 * 6346243789798364141 / 18446744073709551616) / 18446744073709551616); exact ⟨by omega, by omega⟩
  ·show W64 0; exact ⟨by decide, by decide⟩
 have ef := nf_Q x0 x1 x2 x3 H
 have eg := ng_Q (x3 / 268435456)
 have ed : Q (nf x0 x1 x2 x3 H) 4 - Q (ng (x3 / 268435456)) 4 = N * 4294967296 + H - x3 / 268435456 * Lm := by
  rw [ef, eg, ← hq]
  unfold Lm
  omega
 have := without_any (nf x0 x1 x2 x3 H) (ng (x3 / 268435456)) w wf wg (by rw [ef, eg]; unfold Lm; omega) (by rw [ef, eg]; unfold Lm; omega)
 rw [ed, Int.sub_mul_emod_self_right] at this
 exact this
def md (f : Nat → Int) : Nat → Int
 | 0 => f 5 + f 6 * 18446744073709551616 + f 7 * 340282366920938463463374607431768211456
 | k + 1 => (md f k * 18446744073709551616 + f (4 - k)) % Lm
theorem md_bd {f : Nat → Int} (hf : Wds f 8) : ∀ k, 0 ≤ md f k ∧ md f k < Lm
 | 0 => by
  have h5 := hf 5 (by omega)
  have h6 := hf 6 (by omega)
  have h7 := hf 7 (by omega)
  unfold W64 at *
  unfold md Lm
  omega
 | k + 1 => lmod _
theorem md_step (a b : Int) : (a % Lm * 18446744073709551616 + b) % Lm = (a * 18446744073709551616 + b) % Lm := by
 rw [Int.add_emod, Int.mul_emod, Int.emod_emod_of_dvd a (Int.dvd_refl _), ← Int.mul_emod, ← Int.add_emod]
theorem md_half (N h : Int) : ((N * 4294967296 + h / 4294967296) % Lm * 4294967296 + h % 4294967296) % Lm = (N * 18446744073709551616 + h) % Lm := by
 rw [Int.add_emod, Int.mul_emod, Int.emod_emod_of_dvd _ (Int.dvd_refl Lm), ← Int.mul_emod, ← Int.add_emod]
 congr 1
 omega
theorem Q8 (f : Nat → Int) : Q f 8 = (((((f 5 + f 6 * 18446744073709551616 + f 7 * 340282366920938463463374607431768211456) * 18446744073709551616 + f 4) * 18446744073709551616 + f 3) * 18446744073709551616 + f 2) * 18446744073709551616 + f 1) * 18446744073709551616 + f 0 := by
 simp [Q]
 omega
theorem md_all (f : Nat → Int) : md f 5 = Q f 8 % Lm := by
 rw [Q8]
 have s1 : md f 1 = ((f 5 + f 6 * 18446744073709551616 + f 7 * 340282366920938463463374607431768211456) * 18446744073709551616 + f 4) % Lm := rfl
 have s2 : md f 2 = (((f 5 + f 6 * 18446744073709551616 + f 7 * 340282366920938463463374607431768211456) * 18446744073709551616 + f 4) * 18446744073709551616 + f 3) % Lm := by
  show (md f 1 * 18446744073709551616 + f 3) % Lm = _
  rw [s1, md_step]
 have s3 : md f 3 = ((((f 5 + f 6 * 18446744073709551616 + f 7 * 340282366920938463463374607431768211456) * 18446744073709551616 + f 4) * 18446744073709551616 + f 3) * 18446744073709551616 + f 2) % Lm := by
  show (md f 2 * 18446744073709551616 + f 2) % Lm = _
  rw [s2, md_step]
 have s4 : md f 4 = (((((f 5 + f 6 * 18446744073709551616 + f 7 * 340282366920938463463374607431768211456) * 18446744073709551616 + f 4) * 18446744073709551616 + f 3) * 18446744073709551616 + f 2) * 18446744073709551616 + f 1) % Lm := by
  show (md f 3 * 18446744073709551616 + f 1) % Lm = _
  rw [s3, md_step]
 show (md f 4 * 18446744073709551616 + f 0) % Lm = _
 rw [s4, md_step]
theorem and32 {x : Int} (h : W64 x) : bits BinOp.and IntKind.u64 x 4294967295 = x % 4294967296 := by
 obtain ⟨X, rfl⟩ := Int.eq_ofNat_of_zero_le h.1
 have := h.2
 rw [maskN X (by omega)]
 omega
theorem modulo_any (f : Nat → Int) (w : World) (hf : Wds f 8) :
  Cs 71 #[.agg (arr 8 f)] w (.agg (arr 4 (d64 (Q f 8 % Lm)))) := by
 rw [← md_all]
 have hm := md_bd hf
 have R1 : Row ((w.alloc (.cells (arr 8 f) 96)).alloc (.cells (arr 4 fun _ => 0) 44)) w.heap.size 96 8 f := (Row.new w 96 8 f).alloc _
 have R2 : Row ((w.alloc (.cells (arr 8 f) 96)).alloc (.cells (arr 4 fun _ => 0) 44)) (w.heap.size + 1) 44 4 (fun _ => 0) := Row.new' _ 44 4 _ (by simp)
 have O : Below w.heap.size w ((w.alloc (.cells (arr 8 f) 96)).alloc (.cells (arr 4 fun _ => 0) 44)) := ((Below.refl _ _).alloc (Nat.le_refl _) _).alloc (by simp) _
 have c5 : ((w.alloc (.cells (arr 8 f) 96)).alloc (.cells #[Value.int .u64 0, Value.int .u64 0, Value.int .u64 0, Value.int .u64 0] 44)).cell? ⟨w.heap.size, 5, none⟩ = some (.int .u64 (f 5)) := R1.cell (i := 5) (by omega)
 have c6 : ((w.alloc (.cells (arr 8 f) 96)).alloc (.cells #[Value.int .u64 0, Value.int .u64 0, Value.int .u64 0, Value.int .u64 0] 44)).cell? ⟨w.heap.size, 6, none⟩ = some (.int .u64 (f 6)) := R1.cell (i := 6) (by omega)
 have c7 : ((w.alloc (.cells (arr 8 f) 96)).alloc (.cells #[Value.int .u64 0, Value.int .u64 0, Value.int .u64 0, Value.int .u64 0] 44)).cell? ⟨w.heap.size, 7, none⟩ = some (.int .u64 (f 7)) := R1.cell (i := 7) (by omega)
 replace R1 := R1.alloc (.cells #[.int .u64 (f 5), .int .u64 (f 6), .int .u64 (f 7), .int .u64 0] 44)
 replace R2 := R2.alloc (.cells #[.int .u64 (f 5), .int .u64 (f 6), .int .u64 (f 7), .int .u64 0] 44)
 have RA : Row (((w.alloc (.cells (arr 8 f) 96)).alloc (.cells (arr 4 fun _ => 0) 44)).alloc (.cells #[.int .u64 (f 5), .int .u64 (f 6), .int .u64 (f 7), .int .u64 0] 44)) (w.heap.size + 1 + 1) 44 4 (fun i => [f 5, f 6, f 7, 0].getD i 0) := Row.new' _ 44 4 (fun i => [f 5, f 6, f 7, 0].getD i 0) (by simp)
 replace O := O.alloc (by simp; omega) (.cells #[.int .u64 (f 5), .int .u64 (f 6), .int .u64 (f 7), .int .u64 0] 44)
 replace RA := RA.congr (f' := d64 (md f 0)) (Q_inj (fun i hi => by
  rcases (show i = 0 ∨ i = 1 ∨ i = 2 ∨ i = 3 by omega) with rfl | rfl | rfl | rfl
  ·exact hf 5 (by omega)
  ·exact hf 6 (by omega)
  ·exact hf 7 (by omega)
  ·show W64 (0 : Int); exact ⟨by decide, by decide⟩) (d64_wds _ 4) (by
  rw [dQ (hm 0), Q4]
  show f 5 + f 6 * 18446744073709551616 + f 7 * 340282366920938463463374607431768211456 + 0 * 6277101735386680763835789423207666416102355444464034512896 = f 5 + f 6 * 18446744073709551616 + f 7 * 340282366920938463463374607431768211456
  omega))
 have HR := hide (And.intro R1 (And.intro R2 (And.intro RA O)))
 clear R1 R2 RA O
 go_enter Tryz.func71, Tryz.ntmps71
 go_wp2_with (refine wpList_build rfl 44 _ rfl #[.int .u64 (f 5), .int .u64 (f 6), .int .u64 (f 7), .int .u64 0] (by kernel_rfl) ?_)
 rw [show #[Value.int .u64 0, Value.int .u64 0, Value.int .u64 0, Value.int .u64 0] = arr 4 (fun _ => 0) from rfl]
 clear c5 c6 c7
 obtain ⟨R1, R2, RA, O⟩ := HR.out
 clear HR
 generalize (((w.alloc (.cells (arr 8 f) 96)).alloc (.cells (arr 4 fun _ => 0) 44)).alloc (.cells #[.int .u64 (f 5), .int .u64 (f 6), .int .u64 (f 7), .int .u64 0] 44)) = W at *
 go_loopw [14] (fun v wr => ∃ k : Nat, k ≤ 5 ∧ v = .int .i64 k ∧ Row wr w.heap.size 96 8 f ∧ Row wr (w.heap.size + 1) 44 4 (fun _ => 0) ∧ Row wr (w.heap.size + 1 + 1) 44 4 (d64 (md f k)) ∧ Below w.heap.size w wr) (fun v _ => 5 - (intOf v).toNat)
 case atStart => exact ⟨0, by omega, rfl, R1, R2, RA, O⟩
 case round =>
  clear R1 R2 RA O
  obtain ⟨k, hk, rfl, R1, R2, RA, O⟩ := hrel
  by_cases hlt : k < 5
  ·rcases (show k = 0 ∨ k = 1 ∨ k = 2 ∨ k = 3 ∨ k = 4 by omega) with rfl | rfl | rfl | rfl | rfl
   ·have c := R1.cell (i := 4) (by omega)
    obtain ⟨b0, b1⟩ := hf 4 (by omega)
    have ea := and32 (hf 4 (by omega))
    have HN := hide (hm 0)
    have HE := hide (show md f (0 + 1) = ((md f 0 * 4294967296 + f 4 / 4294967296) % Lm * 4294967296 + f 4 % 4294967296) % Lm from (md_half (md f 0) (f 4)).symm)
    have HA := hide RA
    have H1 := hide R1
    have HO := hide (And.intro R2 O)
    clear RA R1 R2 O
    generalize f 4 = v at *
    generalize md f 0 = N at *
    go_wp2_with (refine wpList_load_row rfl 44 _ rfl (w.heap.size + 1 + 1) rfl 44 (arr 4 (d64 N)) (0, 0) _ HA.out Tryz.underlying44 rfl (info44 _) ?_)
    refine (next_any N (v / 4294967296) _ HN.out (by omega) (by omega)).mono ?_
    rintro _ w1 ⟨rfl, hb1⟩
    have RA := HA.out.keep hb1
    have R1 := H1.out.keep hb1
    have R2 := HO.out.1.keep hb1
    have O := HO.out.2.trans (hb1.mono HO.out.2.size)
    clear hb1 HA H1 HO HN
    have HN := hide (lmod (N * 4294967296 + v / 4294967296))
    generalize (N * 4294967296 + v / 4294967296) % Lm = N2 at *
    go_wp2_with fail
    refine (next_any N2 (v % 4294967296) _ HN.out (by omega) (by omega)).mono ?_
    rintro _ w2 ⟨rfl, hb2⟩
    replace RA := RA.keep hb2
    replace R1 := R1.keep hb2
    replace R2 := R2.keep hb2
    replace O := O.trans (hb2.mono O.size)
    clear hb2 HN
    rw [← HE.out]
    generalize hN3 : md f (0 + 1) = N3 at *
    have HM0 := hide hN3
    clear hN3
    have RB := hide (RA.setAll (d64 N3))
    have R1' := hide (R1.setOther (k := w.heap.size + 1 + 1) (by omega) 0 (arr 4 (d64 N3)).toList)
    have R2' := hide (R2.setOther (k := w.heap.size + 1 + 1) (by omega) 0 (arr 4 (d64 N3)).toList)
    have O' := hide (below_setCells (g := w.heap.size + 1 + 1) (by omega) (arr 4 (d64 N3)).toList 0 O)
    clear R1 R2 O
    go_wp2_with (refine wpList_store_mid rfl 44 _ _ rfl (w.heap.size + 1 + 1) 0 (arr 4 (d64 N3)) rfl rfl ?thm0 (info44 _) (arr_one _ _) ?_)
    case thm0 => rw [arr_size]; exact RA.there
    go_roundw
    case rel => exact ⟨0 + 1, by omega, rfl, R1'.out, R2'.out, (by rw [HM0.out]; exact RB.out), O'.out⟩
    case measure => simp [intOf]
   ·have c := R1.cell (i := 3) (by omega)
    obtain ⟨b0, b1⟩ := hf 3 (by omega)
    have ea := and32 (hf 3 (by omega))
    have HN := hide (hm 1)
    have HE := hide (show md f (1 + 1) = ((md f 1 * 4294967296 + f 3 / 4294967296) % Lm * 4294967296 + f 3 % 4294967296) % Lm from (md_half (md f 1) (f 3)).symm)
    have HA := hide RA
    have H1 := hide R1
    have HO := hide (And.intro R2 O)
    clear RA R1 R2 O
    generalize f 3 = v at *
    generalize md f 1 = N at *
    go_wp2_with (refine wpList_load_row rfl 44 _ rfl (w.heap.size + 1 + 1) rfl 44 (arr 4 (d64 N)) (0, 0) _ HA.out Tryz.underlying44 rfl (info44 _) ?_)
    refine (next_any N (v / 4294967296) _ HN.out (by omega) (by omega)).mono ?_
    rintro _ w1 ⟨rfl, hb1⟩
    have RA := HA.out.keep hb1
    have R1 := H1.out.keep hb1
    have R2 := HO.out.1.keep hb1
    have O := HO.out.2.trans (hb1.mono HO.out.2.size)
    clear hb1 HA H1 HO HN
    have HN := hide (lmod (N * 4294967296 + v / 4294967296))
    generalize (N * 4294967296 + v / 4294967296) % Lm = N2 at *
    go_wp2_with fail
    refine (next_any N2 (v % 4294967296) _ HN.out (by omega) (by omega)).mono ?_
    rintro _ w2 ⟨rfl, hb2⟩
    replace RA := RA.keep hb2
    replace R1 := R1.keep hb2
    replace R2 := R2.keep hb2
    replace O := O.trans (hb2.mono O.size)
    clear hb2 HN
    rw [← HE.out]
    generalize hN3 : md f (1 + 1) = N3 at *
    have HM1 := hide hN3
    clear hN3
    have RB := hide (RA.setAll (d64 N3))
    have R1' := hide (R1.setOther (k := w.heap.size + 1 + 1) (by omega) 0 (arr 4 (d64 N3)).toList)
    have R2' := hide (R2.setOther (k := w.heap.size + 1 + 1) (by omega) 0 (arr 4 (d64 N3)).toList)
    have O' := hide (below_setCells (g := w.heap.size + 1 + 1) (by omega) (arr 4 (d64 N3)).toList 0 O)
    clear R1 R2 O
    go_wp2_with (refine wpList_store_mid rfl 44 _ _ rfl (w.heap.size + 1 + 1) 0 (arr 4 (d64 N3)) rfl rfl ?thm1 (info44 _) (arr_one _ _) ?_)
    case thm1 => rw [arr_size]; exact RA.there
    go_roundw
    case rel => exact ⟨1 + 1, by omega, rfl, R1'.out, R2'.out, (by rw [HM1.out]; exact RB.out), O'.out⟩
    case measure => simp [intOf]
   ·have c := R1.cell (i := 2) (by omega)
    obtain ⟨b0, b1⟩ := hf 2 (by omega)
    have ea := and32 (hf 2 (by omega))
    have HN := hide (hm 2)
    have HE := hide (show md f (2 + 1) = ((md f 2 * 4294967296 + f 2 / 4294967296) % Lm * 4294967296 + f 2 % 4294967296) % Lm from (md_half (md f 2) (f 2)).symm)
    have HA := hide RA
    have H1 := hide R1
    have HO := hide (And.intro R2 O)
    clear RA R1 R2 O
    generalize f 2 = v at *
    generalize md f 2 = N at *
    go_wp2_with (refine wpList_load_row rfl 44 _ rfl (w.heap.size + 1 + 1) rfl 44 (arr 4 (d64 N)) (0, 0) _ HA.out Tryz.underlying44 rfl (info44 _) ?_)
    refine (next_any N (v / 4294967296) _ HN.out (by omega) (by omega)).mono ?_
    rintro _ w1 ⟨rfl, hb1⟩
    have RA := HA.out.keep hb1
    have R1 := H1.out.keep hb1
    have R2 := HO.out.1.keep hb1
    have O := HO.out.2.trans (hb1.mono HO.out.2.size)
    clear hb1 HA H1 HO HN
    have HN := hide (lmod (N * 4294967296 + v / 4294967296))
    generalize (N * 4294967296 + v / 4294967296) % Lm = N2 at *
    go_wp2_with fail
    refine (next_any N2 (v % 4294967296) _ HN.out (by omega) (by omega)).mono ?_
    rintro _ w2 ⟨rfl, hb2⟩
    replace RA := RA.keep hb2
    replace R1 := R1.keep hb2
    replace R2 := R2.keep hb2
    replace O := O.trans (hb2.mono O.size)
    clear hb2 HN
    rw [← HE.out]
    generalize hN3 : md f (2 + 1) = N3 at *
    have HM2 := hide hN3
    clear hN3
    have RB := hide (RA.setAll (d64 N3))
    have R1' := hide (R1.setOther (k := w.heap.size + 1 + 1) (by omega) 0 (arr 4 (d64 N3)).toList)
    have R2' := hide (R2.setOther (k := w.heap.size + 1 + 1) (by omega) 0 (arr 4 (d64 N3)).toList)
    have O' := hide (below_setCells (g := w.heap.size + 1 + 1) (by omega) (arr 4 (d64 N3)).toList 0 O)
    clear R1 R2 O
    go_wp2_with (refine wpList_store_mid rfl 44 _ _ rfl (w.heap.size + 1 + 1) 0 (arr 4 (d64 N3)) rfl rfl ?thm2 (info44 _) (arr_one _ _) ?_)
    case thm2 => rw [arr_size]; exact RA.there
    go_roundw
    case rel => exact ⟨2 + 1, by omega, rfl, R1'.out, R2'.out, (by rw [HM2.out]; exact RB.out), O'.out⟩
    case measure => simp [intOf]
   ·have c := R1.cell (i := 1) (by omega)
    obtain ⟨b0, b1⟩ := hf 1 (by omega)
    have ea := and32 (hf 1 (by omega))
    have HN := hide (hm 3)
    have HE := hide (show md f (3 + 1) = ((md f 3 * 4294967296 + f 1 / 4294967296) % Lm * 4294967296 + f 1 % 4294967296) % Lm from (md_half (md f 3) (f 1)).symm)
    have HA := hide RA
    have H1 := hide R1
    have HO := hide (And.intro R2 O)
    clear RA R1 R2 O
    generalize f 1 = v at *
    generalize md f 3 = N at *
    go_wp2_with (refine wpList_load_row rfl 44 _ rfl (w.heap.size + 1 + 1) rfl 44 (arr 4 (d64 N)) (0, 0) _ HA.out Tryz.underlying44 rfl (info44 _) ?_)
    refine (next_any N (v / 4294967296) _ HN.out (by omega) (by omega)).mono ?_
    rintro _ w1 ⟨rfl, hb1⟩
    have RA := HA.out.keep hb1
    have R1 := H1.out.keep hb1
    have R2 := HO.out.1.keep hb1
    have O := HO.out.2.trans (hb1.mono HO.out.2.size)
    clear hb1 HA H1 HO HN
    have HN := hide (lmod (N * 4294967296 + v / 4294967296))
    generalize (N * 4294967296 + v / 4294967296) % Lm = N2 at *
    go_wp2_with fail
    refine (next_any N2 (v % 4294967296) _ HN.out (by omega) (by omega)).mono ?_
    rintro _ w2 ⟨rfl, hb2⟩
    replace RA := RA.keep hb2
    replace R1 := R1.keep hb2
    replace R2 := R2.keep hb2
    replace O := O.trans (hb2.mono O.size)
    clear hb2 HN
    rw [← HE.out]
    generalize hN3 : md f (3 + 1) = N3 at *
    have HM3 := hide hN3
    clear hN3
    have RB := hide (RA.setAll (d64 N3))
    have R1' := hide (R1.setOther (k := w.heap.size + 1 + 1) (by omega) 0 (arr 4 (d64 N3)).toList)
    have R2' := hide (R2.setOther (k := w.heap.size + 1 + 1) (by omega) 0 (arr 4 (d64 N3)).toList)
    have O' := hide (below_setCells (g := w.heap.size + 1 + 1) (by omega) (arr 4 (d64 N3)).toList 0 O)
    clear R1 R2 O
    go_wp2_with (refine wpList_store_mid rfl 44 _ _ rfl (w.heap.size + 1 + 1) 0 (arr 4 (d64 N3)) rfl rfl ?thm3 (info44 _) (arr_one _ _) ?_)
    case thm3 => rw [arr_size]; exact RA.there
    go_roundw
    case rel => exact ⟨3 + 1, by omega, rfl, R1'.out, R2'.out, (by rw [HM3.out]; exact RB.out), O'.out⟩
    case measure => simp [intOf]
   ·have c := R1.cell (i := 0) (by omega)
    obtain ⟨b0, b1⟩ := hf 0 (by omega)
    have ea := and32 (hf 0 (by omega))
    have HN := hide (hm 4)
    have HE := hide (show md f (4 + 1) = ((md f 4 * 4294967296 + f 0 / 4294967296) % Lm * 4294967296 + f 0 % 4294967296) % Lm from (md_half (md f 4) (f 0)).symm)
    have HA := hide RA
    have H1 := hide R1
    have HO := hide (And.intro R2 O)
    clear RA R1 R2 O
    generalize f 0 = v at *
    generalize md f 4 = N at *
    go_wp2_with (refine wpList_load_row rfl 44 _ rfl (w.heap.size + 1 + 1) rfl 44 (arr 4 (d64 N)) (0, 0) _ HA.out Tryz.underlying44 rfl (info44 _) ?_)
    refine (next_any N (v / 4294967296) _ HN.out (by omega) (by omega)).mono ?_
    rintro _ w1 ⟨rfl, hb1⟩
    have RA := HA.out.keep hb1
    have R1 := H1.out.keep hb1
    have R2 := HO.out.1.keep hb1
    have O := HO.out.2.trans (hb1.mono HO.out.2.size)
    clear hb1 HA H1 HO HN
    have HN := hide (lmod (N * 4294967296 + v / 4294967296))
    generalize (N * 4294967296 + v / 4294967296) % Lm = N2 at *
    go_wp2_with fail
    refine (next_any N2 (v % 4294967296) _ HN.out (by omega) (by omega)).mono ?_
    rintro _ w2 ⟨rfl, hb2⟩
    replace RA := RA.keep hb2
    replace R1 := R1.keep hb2
    replace R2 := R2.keep hb2
    replace O := O.trans (hb2.mono O.size)
    clear hb2 HN
    rw [← HE.out]
    generalize hN3 : md f (4 + 1) = N3 at *
    have HM4 := hide hN3
    clear hN3
    have RB := hide (RA.setAll (d64 N3))
    have R1' := hide (R1.setOther (k := w.heap.size + 1 + 1) (by omega) 0 (arr 4 (d64 N3)).toList)
    have R2' := hide (R2.setOther (k := w.heap.size + 1 + 1) (by omega) 0 (arr 4 (d64 N3)).toList)
    have O' := hide (below_setCells (g := w.heap.size + 1 + 1) (by omega) (arr 4 (d64 N3)).toList 0 O)
    clear R1 R2 O
    go_wp2_with (refine wpList_store_mid rfl 44 _ _ rfl (w.heap.size + 1 + 1) 0 (arr 4 (d64 N3)) rfl rfl ?thm4 (info44 _) (arr_one _ _) ?_)
    case thm4 => rw [arr_size]; exact RA.there
    go_roundw
    case rel => exact ⟨4 + 1, by omega, rfl, R1'.out, R2'.out, (by rw [HM4.out]; exact RB.out), O'.out⟩
    case measure => simp [intOf]
  ·have hk' : k = 5 := by omega
   subst hk'
   have RR := hide (R2.setAll (d64 (md f 5)))
   have OO := hide (below_setCells (g := w.heap.size + 1) (by omega) (arr 4 (d64 (md f 5))).toList 0 O)
   have HX := hide RA
   clear RA O R1
   generalize hN5 : md f 5 = N at *
   have H5 := hide hN5
   clear hN5
   go_wp2_with (first | (refine wpList_load_row rfl 44 _ rfl (w.heap.size + 1 + 1) rfl 44 (arr 4 (d64 N)) (0, 0) _ HX.out Tryz.underlying44 rfl (info44 _) ?_) | (refine wpList_store_mid rfl 44 _ _ rfl (w.heap.size + 1) 0 (arr 4 (d64 N)) rfl rfl ?the (info44 _) (arr_one _ _) ?_))
   case the => rw [arr_size]; exact R2.there
   exact bodyPost_ret (v := .agg (arr 4 (d64 N))) (results_cell_row Tryz.results71 _ _ (w.heap.size + 1) 44 (arr 4 (d64 N)) (0, 0) _ rfl RR.out Tryz.underlying44 rfl (info44 _)) rfl ⟨by rw [H5.out], OO.out⟩
theorem Q_upd (o : Nat → Int) (k : Nat) (v : Int) : ∀ n, k < n → Q (upd o k v) n = Q o n + (v - o k) * 18446744073709551616 ^ k
 | 0, h => by omega
 | n + 1, h => by
  simp only [Q]
  by_cases e : k = n
  ·subst e
   rw [Q_congr (f := upd o k v) (g := o) (n := k) (fun i hi => by unfold upd; rw [if_neg (by omega)]), show upd o k v k = v by unfold upd; rw [if_pos rfl], Int.sub_mul]
   omega
  ·rw [Q_upd o k v n (by omega), show upd o k v n = o n by unfold upd; rw [if_neg (by omega)]]
   omega
structure TI (f g : Nat → Int) (i j : Nat) (o : Nat → Int) (c : Int) : Prop where
 w : Wds o 8
 cw : W64 c
 z : ∀ k, i + 4 ≤ k → k < 8 → o k = 0
 e : Q o 8 + c * 18446744073709551616 ^ (i + j) = Q f i * Q g 4 + f i * Q g j * 18446744073709551616 ^ i
theorem TI.step {f g : Nat → Int} {i j : Nat} {o : Nat → Int} {c : Int} (h : TI f g i j o c) (hf : Wds f 4) (hg : Wds g 4) (hi : i < 4) (hj : j < 4) :
  TI f g i (j + 1) (upd o (i + j) ((f i * g j + o (i + j) + c) % 18446744073709551616)) ((f i * g j + o (i + j) + c) / 18446744073709551616) := by
 have hfi := hf i hi
 have hgj := hg j hj
 have ho := h.w (i + j) (by omega)
 have hc := h.cw
 unfold W64 at hfi hgj ho hc
 have p0 : 0 ≤ f i * g j := Int.mul_nonneg hfi.1 hgj.1
 have p1 : f i * g j ≤ 18446744073709551615 * 18446744073709551615 := Int.mul_le_mul (by omega) (by omega) hgj.1 (by omega)
 refine ⟨fun k hk => ?_, ⟨by omega, by omega⟩, fun k h1 h2 => ?_, ?_⟩
 ·unfold upd
  by_cases e : k = i + j
  ·rw [if_pos e]; exact ⟨by omega, by omega⟩
  ·rw [if_neg e]; exact h.w k hk
 ·unfold upd
  rw [if_neg (by omega)]
  exact h.z k h1 h2
 ·rw [Q_upd o (i + j) _ 8 (by omega)]
  have he := h.e
  have hp : (18446744073709551616 : Int) ^ (i + (j + 1)) = 18446744073709551616 * 18446744073709551616 ^ (i + j) := p64s (i + j)
  rw [hp]
  have hq : Q g (j + 1) = Q g j + g j * 18446744073709551616 ^ j := rfl
  rw [hq]
  have hx : (18446744073709551616 : Int) ^ (i + j) = 18446744073709551616 ^ i * 18446744073709551616 ^ j := Int.pow_add _ _ _
  have e1 : f i * (Q g j + g j * 18446744073709551616 ^ j) * 18446744073709551616 ^ i = f i * Q g j * 18446744073709551616 ^ i + f i * g j * 18446744073709551616 ^ (i + j) := by
   rw [hx, Int.mul_add, Int.add_mul]
   congr 1
   rw [← Int.mul_assoc, Int.mul_assoc, Int.mul_comm (18446744073709551616 ^ j)]
  rw [e1]
  generalize f i * g j = P at *
  generalize (18446744073709551616 : Int) ^ (i + j) = X at *
  have e2 : (P + o (i + j) + c) % 18446744073709551616 = P + o (i + j) + c - 18446744073709551616 * ((P + o (i + j) + c) / 18446744073709551616) := by omega
  rw [e2]
  generalize (P + o (i + j) + c) / 18446744073709551616 = D
  have e3 : (P + o (i + j) + c - 18446744073709551616 * D - o (i + j)) * X = P * X + c * X - D * (18446744073709551616 * X) := by
   rw [show P + o (i + j) + c - 18446744073709551616 * D - o (i + j) = P + c - 18446744073709551616 * D by omega, Int.sub_mul, Int.add_mul, Int.mul_comm 18446744073709551616 D, Int.mul_assoc]
  rw [e3]
  omega
theorem TI.row {f g : Nat → Int} {i : Nat} {o : Nat → Int} {c : Int} (h : TI f g i 4 o c) (hi : i < 4) : TI f g (i + 1) 0 (upd o (i + 4) c) 0 := by
 refine ⟨fun k hk => ?_, ⟨by decide, by decide⟩, fun k h1 h2 => ?_, ?_⟩
 ·unfold upd
  by_cases e : k = i + 4
  ·rw [if_pos e]; exact h.cw
  ·rw [if_neg e]; exact h.w k hk
 ·unfold upd
  rw [if_neg (by omega)]
  exact h.z k (by omega) h2
 ·rw [Q_upd o (i + 4) _ 8 (by omega), h.z (i + 4) (by omega) (by omega)]
  have he := h.e
  have hq : Q f (i + 1) = Q f i + f i * 18446744073709551616 ^ i := rfl
  have h0 : Q g 0 = 0 := rfl
  rw [hq, h0, Int.mul_zero, Int.zero_mul, Int.add_mul, Int.sub_zero, Int.mul_assoc (f i), Int.mul_comm (18446744073709551616 ^ i) (Q g 4), ← Int.mul_assoc]
  omega
theorem TI.start (f g : Nat → Int) : TI f g 0 0 (fun _ => 0) 0 := by
 refine ⟨fun k _ => ⟨Int.le_refl 0, (by decide : (0 : Int) < 18446744073709551616)⟩, ⟨by decide, by decide⟩, fun _ _ _ => rfl, ?_⟩
 have h0 : Q f 0 = 0 := rfl
 have h1 : Q g 0 = 0 := rfl
 have h2 : Q (fun _ => 0) 8 = 0 := by decide
 rw [h0, h1, h2]
 simp
theorem TI.done {f g : Nat → Int} {o : Nat → Int} {c : Int} (h : TI f g 4 0 o c) (hc : c = 0) : arr 8 o = arr 8 (d64 (Q f 4 * Q g 4)) := by
 have he := h.e
 have h1 : Q g 0 = 0 := rfl
 rw [hc, h1, Int.zero_mul, Int.mul_zero, Int.zero_mul, Int.add_zero, Int.add_zero] at he
 have hb := Q_bd h.w
 refine arr_congr (Q_inj h.w (d64_wds _ 8) ?_)
 rw [← he, d64_Q _ hb.1, Int.emod_eq_of_lt hb.1 hb.2]
theorem times_any (f g : Nat → Int) (w : World) (hf : Wds f 4) (hg : Wds g 4) :
  Cs 70 #[.agg (arr 4 f), .agg (arr 4 g)] w (.agg (arr 8 (d64 (Q f 4 * Q g 4)))) := by
 go_enter Tryz.func70, Tryz.ntmps70
 go_wp2
 rw [show #[Value.int .u64 0, Value.int .u64 0, Value.int .u64 0, Value.int .u64 0, Value.int .u64 0, Value.int .u64 0, Value.int .u64 0, Value.int .u64 0] = arr 8 (fun _ => 0) from rfl]
 have R1 : Row ((((w.alloc (.cells (arr 4 f) 42)).alloc (.cells (arr 4 g) 42)).alloc (.cells (arr 8 fun _ => 0) 96)).alloc (.cells (arr 8 fun _ => 0) 96)) w.heap.size 42 4 f := (((Row.new w 42 4 f).alloc _).alloc _).alloc _
 have R2 : Row ((((w.alloc (.cells (arr 4 f) 42)).alloc (.cells (arr 4 g) 42)).alloc (.cells (arr 8 fun _ => 0) 96)).alloc (.cells (arr 8 fun _ => 0) 96)) (w.heap.size + 1) 42 4 g := ((Row.new' _ 42 4 _ (by simp)).alloc _).alloc _
 have R3 : Row ((((w.alloc (.cells (arr 4 f) 42)).alloc (.cells (arr 4 g) 42)).alloc (.cells (arr 8 fun _ => 0) 96)).alloc (.cells (arr 8 fun _ => 0) 96)) (w.heap.size + 1 + 1) 96 8 (fun _ => 0) := (Row.new' _ 96 8 _ (by simp)).alloc _
 have R4 : Row ((((w.alloc (.cells (arr 4 f) 42)).alloc (.cells (arr 4 g) 42)).alloc (.cells (arr 8 fun _ => 0) 96)).alloc (.cells (arr 8 fun _ => 0) 96)) (w.heap.size + 1 + 1 + 1) 96 8 (fun _ => 0) := Row.new' _ 96 8 _ (by simp)
 have O : Below w.heap.size w ((((w.alloc (.cells (arr 4 f) 42)).alloc (.cells (arr 4 g) 42)).alloc (.cells (arr 8 fun _ => 0) 96)).alloc (.cells (arr 8 fun _ => 0) 96)) := ((((Below.refl _ _).alloc (Nat.le_refl _) _).alloc (by simp) _).alloc (by simp; omega) _).alloc (by simp; omega) _
 generalize ((((w.alloc (.cells (arr 4 f) 42)).alloc (.cells (arr 4 g) 42)).alloc (.cells (arr 8 fun _ => 0) 96)).alloc (.cells (arr 8 fun _ => 0) 96)) = W at R1 R2 R3 R4 O ⊢
 go_loopw [9] (fun x wr => ∃ i : Nat, i ≤ 4 ∧ x = .int .i64 i ∧ Row wr w.heap.size 42 4 f ∧ Row wr (w.heap.size + 1) 42 4 g ∧ Row wr (w.heap.size + 1 + 1) 96 8 (fun _ => 0) ∧ (∃ o, TI f g i 0 o 0 ∧ Row wr (w.heap.size + 1 + 1 + 1) 96 8 o) ∧ Below w.heap.size w wr) (fun x _ => 4 - (intOf x).toNat)
 case atStart => exact ⟨0, by omega, rfl, R1, R2, R3, ⟨_, TI.start f g, R4⟩, O⟩
 case round =>
  clear R1 R2 R3 R4 O
  obtain ⟨i, hi, rfl, R1, R2, R3, ⟨o, T, R4⟩, O⟩ := hrel
  by_cases hlt : i < 4
  ·have HT := hide T
   clear T
   have i2 : (i : Int) < 4 := by omega
   go_wp2
   go_loopw [7, 12] (fun z y wq => ∃ j : Nat, j ≤ 4 ∧ y = .int .i64 j ∧ Row wq w.heap.size 42 4 f ∧ Row wq (w.heap.size + 1) 42 4 g ∧ Row wq (w.heap.size + 1 + 1) 96 8 (fun _ => 0) ∧ (∃ o c, TI f g i j o c ∧ z = .int .u64 c ∧ Row wq (w.heap.size + 1 + 1 + 1) 96 8 o) ∧ Below w.heap.size w wq) (fun _ y _ => 4 - (intOf y).toNat)
   case atStart => exact ⟨0, by omega, rfl, R1, R2, R3, ⟨o, 0, HT.out, rfl, R4⟩, O⟩
   case round =>
    clear R1 R2 R3 R4 O HT
    clear o
    obtain ⟨j, hj, rfl, R1, R2, R3, ⟨o, c, T, rfl, R4⟩, O⟩ := hrel
    by_cases hjl : j < 4
    ·have d1 := R1.cell hlt
     have d2 := R2.cell hjl
     have d3 := R4.cell (i := i + j) (by omega)
     have fr := R4.free
     have i1 : (0 : Int) ≤ (i : Int) := by omega
     have j1 : (0 : Int) ≤ (j : Int) := by omega
     have j2 : (j : Int) < 4 := by omega
     have s1 : (0 : Int) ≤ (i : Int) + (j : Int) := by omega
     have s2 : (i : Int) + (j : Int) < 8 := by omega
     have s3 : IntKind.i64.wrap ((i : Int) + (j : Int)) = (i : Int) + (j : Int) := by rw [IntKind.wrap_i64]; omega
     have s4 : ((i : Int) + (j : Int)).toNat = i + j := by omega
     have HP := hide fun w => productAnd_any (f i) (g j) (o (i + j)) c w (hf i hlt) (hg j hjl) (T.w (i + j) (by omega)) T.cw
     have HT := hide (T.step hf hg hlt hjl)
     clear T
     go_wp2_with fail
     go_region_with (go_at_call 126; refine (HP.out _).mono ?_; rintro _ w9 ⟨rfl, rfl⟩)
     all_goals
      go_wp2
      go_roundw
      case rel => first | exact ⟨j + 1, by omega, by go_num, rowD (R1.other (a := ⟨w.heap.size + 1 + 1 + 1, i + j, none⟩) (by simp <;> omega) _), rowD (R2.other (a := ⟨w.heap.size + 1 + 1 + 1, i + j, none⟩) (by simp <;> omega) _), rowD (R3.other (a := ⟨w.heap.size + 1 + 1 + 1, i + j, none⟩) (by simp) _), ⟨_, _, HT.out, rfl, rowD (R4.set (i + j) _)⟩, (O.setCell (p := ⟨w.heap.size + 1 + 1 + 1, i + j, none⟩) (by simp <;> omega) _).drew⟩ | exact ⟨_, _, _, _, _, _, _, _, _, _, _, _, _, _, _, _, _, _, _, _, _, _, _, _, _, _, ⟨j + 1, by omega, by go_num, rowD (R1.other (a := ⟨w.heap.size + 1 + 1 + 1, i + j, none⟩) (by simp <;> omega) _), rowD (R2.other (a := ⟨w.heap.size + 1 + 1 + 1, i + j, none⟩) (by simp <;> omega) _), rowD (R3.other (a := ⟨w.heap.size + 1 + 1 + 1, i + j, none⟩) (by simp) _), ⟨_, _, HT.out, rfl, rowD (R4.set (i + j) _)⟩, (O.setCell (p := ⟨w.heap.size + 1 + 1 + 1, i + j, none⟩) (by simp <;> omega) _).drew⟩, rfl⟩
      case measure => simp [intOf]; omega
    ·have hj' : j = 4 := by omega
     subst hj'
     have HT := hide (T.row hlt)
     have d3 := R4.cell (i := i + 4) (by omega)
     have fr := R4.free
     have i1 : (0 : Int) ≤ (i : Int) := by omega
     have R1' := hide (R1.other (a := ⟨w.heap.size + 1 + 1 + 1, i + 4, none⟩) (by simp <;> omega) (.int .u64 c))
     have R2' := hide (R2.other (a := ⟨w.heap.size + 1 + 1 + 1, i + 4, none⟩) (by simp <;> omega) (.int .u64 c))
     have R3' := hide (R3.other (a := ⟨w.heap.size + 1 + 1 + 1, i + 4, none⟩) (by simp) (.int .u64 c))
     have R4' := hide (R4.set (i + 4) c)
     have O' := hide (O.setCell (p := ⟨w.heap.size + 1 + 1 + 1, i + 4, none⟩) (by simp <;> omega) (.int .u64 c))
     clear R1 R2 R3 R4 O T
     go_wp2
     exact ⟨⟨i + 1, by omega, by go_num, R1'.out, R2'.out, R3'.out, ⟨_, HT.out, R4'.out⟩, O'.out⟩, by simp [intOf]; omega⟩
  ·have hi' : i = 4 := by omega
   subst hi'
   have HE := hide (T.done rfl)
   have RR := hide (R3.setAll o)
   have OO := hide (below_setCells (g := w.heap.size + 1 + 1) (by omega) (arr 8 o).toList 0 O)
   have HX := hide R4
   clear R4 O R1 R2 T
   go_wp2_with (first | (refine wpList_load_row rfl 96 _ rfl (w.heap.size + 1 + 1 + 1) rfl 96 (arr 8 o) (0, 0) _ HX.out Tryz.underlying96 rfl (info96 _) ?_) | (refine wpList_store_mid rfl 96 _ _ rfl (w.heap.size + 1 + 1) 0 (arr 8 o) rfl rfl ?tht (info96 _) (arr_one _ _) ?_))
   case tht => rw [arr_size]; exact R3.there
   exact bodyPost_ret (v := .agg (arr 8 o)) (results_cell_row Tryz.results70 _ _ (w.heap.size + 1 + 1) 96 (arr 8 o) (0, 0) _ rfl RR.out Tryz.underlying96 rfl (info96 _)) rfl ⟨by rw [HE.out], OO.out⟩
def bs (ns : List Int) : ByteArray := ⟨(ns.map fun n => UInt8.ofNat n.toNat).toArray⟩
theorem bs_fold (ns : List Int) : ∀ s : ByteArray, ns.foldl (fun r n => r.push (UInt8.ofNat n.toNat)) s = ⟨s.data ++ (ns.map fun n => UInt8.ofNat n.toNat).toArray⟩ := by
 induction ns with
 | nil => intro s; simp
 | cons n ns ih =>
  intro s
  rw [List.foldl_cons, ih]
  simp [ByteArray.push]
theorem conv_bytes (W : World) (g : Nat) (T : TypeId) (ns : List Int) (l cap : Nat) (fr : Nat × Nat) (hg : W.heap[g]? = some (.cells (ns.map (Value.int .u8)).toArray T fr)) (hl : ns.length = l) :
  (convert 32 9 (.slice (some ⟨g, 0, none⟩) l cap)).run Tryz.prog W = .ok (.string (bs ns)) W := by
 subst hl
 rw [run_convert_bytes_string W 32 9 5 (some ⟨g, 0, none⟩) ns.length cap Tryz.underlying32 Tryz.underlying5 Tryz.underlying9]
 have h := run_loadCells_list (P := Tryz.prog) W ⟨g, 0, none⟩ (ns.map (Value.int .u8)) (fun j v hv => by
  have hadd : (⟨g, 0, none⟩ : Addr).add j = ⟨g, j, none⟩ := by unfold Addr.add; split <;> simp_all
  rw [hadd, cell_of_row W g j _ T fr hg]
  simpa using hv)
 rw [List.length_map] at h
 have he : ByteArray.empty.data = #[] := rfl
 rw [run_bytesToString W _ ns.length cap ns h, bs_fold, he]
 simp [bs]
def digs (a : Int) : List Int := [a % 256, a / 256 % 256, a / 65536 % 256, a / 16777216 % 256, a / 4294967296 % 256, a / 1099511627776 % 256, a / 281474976710656 % 256, a / 72057594037927936 % 256]
def lebytes (n : Int) : ByteArray := bs (digs (n % 18446744073709551616) ++ digs (n / 18446744073709551616 % 18446744073709551616) ++ digs (n / 340282366920938463463374607431768211456 % 18446744073709551616) ++ digs (n / 6277101735386680763835789423207666416102355444464034512896 % 18446744073709551616))
theorem text_any (a b c d : Int) (w : World) :
  Cs 72 #[.agg #[.int .u64 a, .int .u64 b, .int .u64 c, .int .u64 d]] w (.string (bs (digs a ++ digs b ++ digs c ++ digs d))) := by
 go_enter Tryz.func72, Tryz.ntmps72
 go_wp2
 refine wp_loop_rounds 33 ?_
 iterate 33 (rw [rounds_succ]; go_wp2)
 have hcv : (convert 32 9 (.slice (some ⟨w.heap.size + 1, 0, none⟩) 32 32)).run Tryz.prog ((w.alloc (.cells #[.int .u64 a, .int .u64 b, .int .u64 c, .int .u64 d] 42)).alloc (.cells #[.int .u8 (a % 256), .int .u8 (a / 256 % 256), .int .u8 (a / 65536 % 256), .int .u8 (a / 16777216 % 256), .int .u8 (a / 4294967296 % 256), .int .u8 (a / 1099511627776 % 256), .int .u8 (a / 281474976710656 % 256), .int .u8 (a / 72057594037927936 % 256), .int .u8 (b % 256), .int .u8 (b / 256 % 256), .int .u8 (b / 65536 % 256), .int .u8 (b / 16777216 % 256), .int .u8 (b / 4294967296 % 256), .int .u8 (b / 1099511627776 % 256), .int .u8 (b / 281474976710656 % 256), .int .u8 (b / 72057594037927936 % 256), .int .u8 (c % 256), .int .u8 (c / 256 % 256), .int .u8 (c / 65536 % 256), .int .u8 (c / 16777216 % 256), .int .u8 (c / 4294967296 % 256), .int .u8 (c / 1099511627776 % 256), .int .u8 (c / 281474976710656 % 256), .int .u8 (c / 72057594037927936 % 256), .int .u8 (d % 256), .int .u8 (d / 256 % 256), .int .u8 (d / 65536 % 256), .int .u8 (d / 16777216 % 256), .int .u8 (d / 4294967296 % 256), .int .u8 (d / 1099511627776 % 256), .int .u8 (d / 281474976710656 % 256), .int .u8 (d / 72057594037927936 % 256)] 89)) = .ok (.string (bs (digs a ++ digs b ++ digs c ++ digs d))) _ := conv_bytes _ (w.heap.size + 1) 89 (digs a ++ digs b ++ digs c ++ digs d) 32 32 (0, 0) (heap_alloc2_new w _ _) rfl
 rw [hcv]
 clear hcv
 generalize hB : bs (digs a ++ digs b ++ digs c ++ digs d) = B
 have HB := hide hB
 clear hB
 go_wp2
 go_ret
 exact ⟨by rw [HB.out]; rfl, ((Below.refl _ _).alloc (Nat.le_refl _) _).alloc (by simp) _⟩
theorem prod_Q {M N : Int} (hM : 0 ≤ M ∧ M < Lm) (hN : 0 ≤ N ∧ N < Lm) : Q (d64 (M * N)) 8 = M * N := by
 have h0 : 0 ≤ M * N := Int.mul_nonneg hM.1 hN.1
 have h1 : M * N ≤ Lm * Lm := Int.mul_le_mul (by omega) (by omega) hN.1 (by decide)
 have h2 : Lm * Lm < 18446744073709551616 ^ 8 := by decide
 rw [d64_Q _ h0, Int.emod_eq_of_lt h0 (by omega)]
theorem mul_any (M N : Int) (w : World) (hM : 0 ≤ M ∧ M < Lm) (hN : 0 ≤ N ∧ N < Lm) :
  Cs 29 #[.agg (arr 4 (d64 M)), .agg (arr 4 (d64 N))] w (.agg (arr 4 (d64 (M * N % Lm)))) := by
 have C1 : Hid (∀ w, Cs 70 #[.agg (arr 4 (d64 M)), .agg (arr 4 (d64 N))] w (.agg (arr 8 (d64 (M * N))))) := hide fun w => by
  have := times_any (d64 M) (d64 N) w (d64_wds _ 4) (d64_wds _ 4)
  rwa [dQ hM, dQ hN] at this
 have C2 : Hid (∀ w, Cs 71 #[.agg (arr 8 (d64 (M * N)))] w (.agg (arr 4 (d64 (M * N % Lm))))) := hide fun w => by
  have := modulo_any (d64 (M * N)) w (d64_wds _ 8)
  rwa [prod_Q hM hN] at this
 have R1 : Row (((w.alloc (.cells (arr 4 (d64 M)) 44)).alloc (.cells (arr 4 (d64 N)) 44)).alloc (.cells (arr 4 fun _ => 0) 44)) w.heap.size 44 4 (d64 M) := ((Row.new w 44 4 _).alloc _).alloc _
 have R2 : Row (((w.alloc (.cells (arr 4 (d64 M)) 44)).alloc (.cells (arr 4 (d64 N)) 44)).alloc (.cells (arr 4 fun _ => 0) 44)) (w.heap.size + 1) 44 4 (d64 N) := (Row.new' _ 44 4 _ (by simp)).alloc _
 have R3 : Row (((w.alloc (.cells (arr 4 (d64 M)) 44)).alloc (.cells (arr 4 (d64 N)) 44)).alloc (.cells (arr 4 fun _ => 0) 44)) (w.heap.size + 1 + 1) 44 4 (fun _ => 0) := Row.new' _ 44 4 _ (by simp)
 have O : Below w.heap.size w (((w.alloc (.cells (arr 4 (d64 M)) 44)).alloc (.cells (arr 4 (d64 N)) 44)).alloc (.cells (arr 4 fun _ => 0) 44)) := (((Below.refl _ _).alloc (Nat.le_refl _) _).alloc (by simp) _).alloc (by simp; omega) _
 have HR := hide (And.intro R1 (And.intro R2 (And.intro R3 O)))
 clear R1 R2 R3 O
 generalize d64 (M * N) = p at *
 generalize M * N % Lm = V at *
 go_enter Tryz.func29, Tryz.ntmps29
 go_wp2_with (first | (refine wpList_load_row rfl 42 _ rfl w.heap.size rfl 44 (arr 4 (d64 M)) (0, 0) _ HR.out.1 Tryz.underlying42 rfl (info42 _) ?_) | (refine wpList_load_row rfl 42 _ rfl (w.heap.size + 1) rfl 44 (arr 4 (d64 N)) (0, 0) _ HR.out.2.1 Tryz.underlying42 rfl (info42 _) ?_))
 refine (C1.out _).mono ?_
 rintro _ w1 ⟨rfl, hb1⟩
 have R3 := HR.out.2.2.1.keep hb1
 have O := HR.out.2.2.2.trans (hb1.mono HR.out.2.2.2.size)
 clear hb1 HR
 go_wp2_with fail
 refine (C2.out _).mono ?_
 rintro _ w2 ⟨rfl, hb2⟩
 replace R3 := R3.keep hb2
 replace O := O.trans (hb2.mono O.size)
 clear hb2
 have RR := hide (R3.setAll (d64 V))
 have OO := hide (below_setCells (g := w.heap.size + 1 + 1) (by omega) (arr 4 (d64 V)).toList 0 O)
 clear O
 go_wp2_with (refine wpList_store_mid rfl 44 _ _ rfl (w.heap.size + 1 + 1) 0 (arr 4 (d64 V)) rfl rfl ?thn (info44 _) (arr_one _ _) ?_)
 case thn => rw [arr_size]; exact R3.there
 exact bodyPost_ret (v := .agg (arr 4 (d64 V))) (results_cell_row Tryz.results29 _ _ (w.heap.size + 1 + 1) 44 (arr 4 (d64 V)) (0, 0) _ rfl RR.out Tryz.underlying44 rfl (info44 _)) rfl ⟨rfl, OO.out⟩
theorem leb_d64 (N : Int) : lebytes N = bs (digs (d64 N 0) ++ digs (d64 N 1) ++ digs (d64 N 2) ++ digs (d64 N 3)) := by
 have e0 : d64 N 0 = N % 18446744073709551616 := by simp [d64]
 have e1 : d64 N 1 = N / 18446744073709551616 % 18446744073709551616 := by simp [d64]
 have e2 : d64 N 2 = N / 340282366920938463463374607431768211456 % 18446744073709551616 := by simp [d64]
 have e3 : d64 N 3 = N / 6277101735386680763835789423207666416102355444464034512896 % 18446744073709551616 := by simp [d64]
 rw [e0, e1, e2, e3]
 rfl
theorem bytes_any (N : Int) (w : World) :
  Cs 30 #[.agg (arr 4 (d64 N))] w (.string (lebytes N)) := by
 have C1 : Hid (∀ w, Cs 72 #[.agg (arr 4 (d64 N))] w (.string (lebytes N))) := hide fun w => by
  rw [leb_d64]
  exact text_any (d64 N 0) (d64 N 1) (d64 N 2) (d64 N 3) w
 have HR := hide (And.intro (Row.new w 44 4 (d64 N)) (new_below w (.cells (arr 4 (d64 N)) 44)))
 generalize lebytes N = B at *
 go_enter Tryz.func30, Tryz.ntmps30
 go_wp2_with (refine wpList_load_row rfl 42 _ rfl w.heap.size rfl 44 (arr 4 (d64 N)) (0, 0) _ HR.out.1 Tryz.underlying42 rfl (info42 _) ?_)
 refine (C1.out _).mono ?_
 rintro _ w1 ⟨rfl, hb1⟩
 have O := HR.out.2.trans (hb1.mono HR.out.2.size)
 clear hb1 HR
 go_wp2
 go_ret
 exact ⟨rfl, O⟩
def S (f : Nat → Int) : Nat → Int
 | 0 => 0
 | n + 1 => S f n + f n * 65536 ^ n
theorem p16 (n : Nat) : (0 : Int) < 65536 ^ n := Int.pow_pos (by decide)
theorem p16s (n : Nat) : (65536 : Int) ^ (n + 1) = 65536 * 65536 ^ n := by rw [Int.pow_succ, Int.mul_comm]
def Dig (f : Nat → Int) (n : Nat) : Prop := ∀ i, i < n → 0 ≤ f i ∧ f i < 65536
theorem Dig.le {f : Nat → Int} {n m : Nat} (h : Dig f n) (hm : m ≤ n) : Dig f m := fun i hi => h i (by omega)
theorem S_bd {f : Nat → Int} : ∀ {n : Nat}, Dig f n → 0 ≤ S f n ∧ S f n < 65536 ^ n
 | 0, _ => by simp [S]
 | n + 1, h => by
  have ih := S_bd (n := n) (h.le (by omega))
  have hd := h n (by omega)
  have hp := p16 n
  have h1 : f n * 65536 ^ n ≤ 65535 * 65536 ^ n := Int.mul_le_mul_of_nonneg_right (by omega) (by omega)
  have h2 : 0 ≤ f n * 65536 ^ n := Int.mul_nonneg hd.1 (by omega)
  rw [p16s]
  simp only [S]
  omega
theorem S_congr {f g : Nat → Int} : ∀ {n : Nat}, (∀ i, i < n → f i = g i) → S f n = S g n
 | 0, _ => rfl
 | n + 1, h => by
  simp only [S]
  rw [S_congr (n := n) fun i hi => h i (by omega), h n (by omega)]
theorem S_above {f g : Nat → Int} {p : Nat} : ∀ {n : Nat}, p ≤ n → (∀ j, p ≤ j → j < n → f j = g j) → S f n - S g n = S f p - S g p := by
 intro n
 induction n with
 | zero => intro h _; have : p = 0 := by omega
           subst this; rfl
 | succ n ih =>
  intro h he
  by_cases hp : p = n + 1
  ·subst hp; rfl
  ·have h1 := ih (by omega) fun j a b => he j a (by omega)
   simp only [S]
   rw [he n (by omega) (by omega)]
   omega
theorem S_lt {f g : Nat → Int} {p : Nat} (hf : Dig f 16) (hg : Dig g 16) (hp : p < 16) (he : ∀ j, p + 1 ≤ j → j < 16 → f j = g j) (hne : f p ≠ g p) : decide (f p < g p) = decide (S f 16 < S g 16) := by
 have h1 := S_above (n := 16) (by omega) he
 have h2 := S_bd (hf.le (m := p) (by omega))
 have h3 := S_bd (hg.le (m := p) (by omega))
 have hx := p16 p
 simp only [S] at h1
 generalize S f p = sf at *
 generalize S g p = sg at *
 generalize (65536 : Int) ^ p = X at *
 have hS : (S f 16 < S g 16) ↔ f p < g p := by
  constructor
  ·intro h
   apply Int.lt_of_not_ge
   intro hge
   have : f p ≥ g p + 1 := by omega
   have : (f p - g p) * X ≥ 1 * X := Int.mul_le_mul_of_nonneg_right (by omega) (by omega)
   rw [Int.sub_mul] at this
   have e16 : S f 16 - S g 16 < 0 := by omega
   simp only [S] at e16
   omega
  ·intro h
   have : (g p - f p) * X ≥ 1 * X := Int.mul_le_mul_of_nonneg_right (by omega) (by omega)
   rw [Int.sub_mul] at this
   have e16 : ∀ d, S f 16 - S g 16 = d → d < 0 → S f 16 < S g 16 := fun d a b => by omega
   simp only [S] at e16 ⊢
   omega
 exact decide_eq_decide.2 hS.symm
theorem rowN {w : World} {g : Nat} {T : TypeId} {n : Nat} {f : Nat → Int} (h : Row w g T n f) (k : Nat) : Row (w.drewN k) g T n f := h
theorem belN {B : Nat} {a w : World} {n : Nat} (h : Below B a w) : Below B a (w.drewN n) := ⟨h.os, h.tape, h.output, h.size, h.block⟩
theorem less_any (f g : Nat → Int) (w : World) (hf : Dig f 16) (hg : Dig g 16) : Cs 50 #[.agg (arr 16 f), .agg (arr 16 g)] w (.bool (decide (S f 16 < S g 16))) := by
 go_enter Tryz.func50, Tryz.ntmps50
 go_wp2
 have R1 : Row ((w.alloc (.cells (arr 16 f) 36)).alloc (.cells (arr 16 g) 36)) w.heap.size 36 16 f := (Row.new w 36 16 f).alloc _
 have R2 : Row ((w.alloc (.cells (arr 16 f) 36)).alloc (.cells (arr 16 g) 36)) (w.heap.size + 1) 36 16 g := Row.new' _ 36 16 _ (by simp)
 have O : Below w.heap.size w ((w.alloc (.cells (arr 16 f) 36)).alloc (.cells (arr 16 g) 36)) := ((Below.refl _ _).alloc (Nat.le_refl _) _).alloc (by simp) _
 generalize (w.alloc (.cells (arr 16 f) 36)).alloc (.cells (arr 16 g) 36) = W at R1 R2 O ⊢
 go_loopw [5] (fun i wr => ∃ m : Nat, m ≤ 16 ∧ (∃ v : Int, v = (m : Int) - 1 ∧ i = .int .i64 v) ∧ (∀ j, m ≤ j → j < 16 → f j = g j) ∧ Row wr w.heap.size 36 16 f ∧ Row wr (w.heap.size + 1) 36 16 g ∧ Below w.heap.size w wr) (fun i _ => (intOf i + 1).toNat)
 case atStart => exact ⟨16, by omega, ⟨15, by omega, rfl⟩, fun j a b => by omega, R1, R2, O⟩
 case round =>
  clear R1 R2 O
  obtain ⟨m, hm, ⟨v, hv, hi⟩, hall, R1, R2, O⟩ := hrel
  rcases m with _ | p
  ·have e : v = -1 := by omega
   rw [e] at hi
   clear hv e
   subst hi
   have HS := hide (S_congr (n := 16) fun i hi => hall i (by omega) hi)
   clear hall
   go_wp2
   go_ret
   refine ⟨?_, O⟩
   rw [HS.out]
   simp
  ·have e : v = (p : Int) := by omega
   rw [e] at hi
   clear hv e
   subst hi
   have c := R1.cell (i := p) (by omega)
   have d := R2.cell (i := p) (by omega)
   have i1 : (0 : Int) ≤ (p : Int) := by omega
   have i2 : (p : Int) < 16 := by omega
   have HA := hide hall
   clear hall
   by_cases hfg : f p = g p
   ·have hb : (f p != g p) = false := by simp [hfg]
    have HF := hide hfg
    clear hfg
    go_wp2_with fail
    go_quiet (fail)
    go_wp2
    go_roundw
    case rel => exact ⟨p, by omega, ⟨_, by omega, rfl⟩, fun j a b => by
     by_cases hj : j = p
     ·rw [hj]; exact HF.out
     ·exact HA.out j (by omega) b, rowN R1 _, rowN R2 _, belN O⟩
    case measure => simp [intOf]
   ·have hb : (f p != g p) = true := by simp [hfg]
    have HL := hide (S_lt hf hg (p := p) (by omega) HA.out hfg)
    clear hfg
    go_wp2_with fail
    go_quiet (fail)
    go_wp2_with fail
    go_quiet (fail)
    go_wp2
    go_ret
    exact ⟨by rw [← HL.out]; rfl, belN (belN O)⟩
def bor (a b : Nat → Int) : Nat → Int
 | 0 => 0
 | k + 1 => 1 - (65536 + a k - b k - bor a b k) / 65536
def minusF (a b : Nat → Int) : Nat → Int := fun i => (65536 + a i - b i - bor a b i) % 65536
def mk (a b : Nat → Int) (k : Nat) : Nat → Int := fun i => if i < k then minusF a b i else 0
theorem bor_bd {a b : Nat → Int} (ha : Dig a 16) (hb : Dig b 16) : ∀ k, k ≤ 16 → 0 ≤ bor a b k ∧ bor a b k ≤ 1
 | 0, _ => by simp [bor]
 | k + 1, h => by
  have ih := bor_bd ha hb k (by omega)
  have h1 := ha k (by omega)
  have h2 := hb k (by omega)
  simp only [bor]
  omega
theorem minusF_dig (a b : Nat → Int) (n : Nat) : Dig (minusF a b) n := fun i _ => by unfold minusF; omega
theorem minus_S (a b : Nat → Int) : ∀ k, S (minusF a b) k = S a k - S b k + bor a b k * 65536 ^ k
 | 0 => by simp [S, bor]
 | k + 1 => by
  have ih := minus_S a b k
  have e : bor a b (k + 1) * 65536 ^ (k + 1) = 65536 * bor a b (k + 1) * 65536 ^ k := by rw [p16s, ← Int.mul_assoc, Int.mul_comm (bor a b (k + 1)) 65536]
  have e2 : minusF a b k = a k - b k - bor a b k + 65536 * bor a b (k + 1) := by
   simp only [minusF, bor]
   omega
  simp only [S]
  rw [ih, e, e2, Int.add_mul, Int.sub_mul, Int.sub_mul]
  omega
theorem minus_le {a b : Nat → Int} (ha : Dig a 16) (hb : Dig b 16) (h : S b 16 ≤ S a 16) : S (minusF a b) 16 = S a 16 - S b 16 := by
 have e := minus_S a b 16
 have h0 := bor_bd ha hb 16 (by omega)
 have h1 := S_bd (minusF_dig a b 16)
 have h2 := S_bd ha
 have h3 := S_bd hb
 have : bor a b 16 = 0 ∨ bor a b 16 = 1 := by omega
 rcases this with h4 | h4
 ·rw [h4] at e; omega
 ·rw [h4] at e; omega
theorem and16 {x : Int} (h0 : 0 ≤ x) (h1 : x < 18446744073709551616) : bits .and .u64 x 65535 = x % 65536 := by
 rw [u64_and x _ h0 h1 (by decide) (by decide)]
 have e : (65535 : Int).toNat = 65535 := by decide
 rw [e, nat_mask16]
 omega
theorem rminus_any (a b : Nat → Int) (w : World) (ha : Dig a 16) (hb : Dig b 16) : Cs 51 #[.agg (arr 16 a), .agg (arr 16 b)] w (.agg (arr 16 (minusF a b))) := by
 go_enter Tryz.func51, Tryz.ntmps51
 go_wp2
 rw [show #[Value.int .u64 0, Value.int .u64 0, Value.int .u64 0, Value.int .u64 0, Value.int .u64 0, Value.int .u64 0, Value.int .u64 0, Value.int .u64 0, Value.int .u64 0, Value.int .u64 0, Value.int .u64 0, Value.int .u64 0, Value.int .u64 0, Value.int .u64 0, Value.int .u64 0, Value.int .u64 0] = arr 16 (fun _ => 0) from rfl]
 have R1 : Row ((((w.alloc (.cells (arr 16 a) 36)).alloc (.cells (arr 16 b) 36)).alloc (.cells (arr 16 fun _ => 0) 36)).alloc (.cells (arr 16 fun _ => 0) 36)) w.heap.size 36 16 a := (((Row.new w 36 16 a).alloc _).alloc _).alloc _
 have R2 : Row ((((w.alloc (.cells (arr 16 a) 36)).alloc (.cells (arr 16 b) 36)).alloc (.cells (arr 16 fun _ => 0) 36)).alloc (.cells (arr 16 fun _ => 0) 36)) (w.heap.size + 1) 36 16 b := ((Row.new' _ 36 16 _ (by simp)).alloc _).alloc _
 have R3 : Row ((((w.alloc (.cells (arr 16 a) 36)).alloc (.cells (arr 16 b) 36)).alloc (.cells (arr 16 fun _ => 0) 36)).alloc (.cells (arr 16 fun _ => 0) 36)) (w.heap.size + 1 + 1) 36 16 (fun _ => 0) := (Row.new' _ 36 16 _ (by simp)).alloc _
 have R4 : Row ((((w.alloc (.cells (arr 16 a) 36)).alloc (.cells (arr 16 b) 36)).alloc (.cells (arr 16 fun _ => 0) 36)).alloc (.cells (arr 16 fun _ => 0) 36)) (w.heap.size + 1 + 1 + 1) 36 16 (fun _ => 0) := Row.new' _ 36 16 _ (by simp)
 have O : Below w.heap.size w ((((w.alloc (.cells (arr 16 a) 36)).alloc (.cells (arr 16 b) 36)).alloc (.cells (arr 16 fun _ => 0) 36)).alloc (.cells (arr 16 fun _ => 0) 36)) := ((((Below.refl _ _).alloc (Nat.le_refl _) _).alloc (by simp) _).alloc (by simp; omega) _).alloc (by simp; omega) _
 generalize (((w.alloc (.cells (arr 16 a) 36)).alloc (.cells (arr 16 b) 36)).alloc (.cells (arr 16 fun _ => 0) 36)).alloc (.cells (arr 16 fun _ => 0) 36) = W at R1 R2 R3 R4 O ⊢
 go_loopw [6, 7] (fun bo i wr => ∃ k : Nat, k ≤ 16 ∧ bo = .int .u64 (bor a b k) ∧ i = .int .i64 k ∧ Row wr w.heap.size 36 16 a ∧ Row wr (w.heap.size + 1) 36 16 b ∧ Row wr (w.heap.size + 1 + 1) 36 16 (fun _ => 0) ∧ Row wr (w.heap.size + 1 + 1 + 1) 36 16 (mk a b k) ∧ Below w.heap.size w wr) (fun _ i _ => 16 - (intOf i).toNat)
 case atStart => exact ⟨0, by omega, rfl, rfl, R1, R2, R3, R4, O⟩
 case round =>
  clear R1 R2 R3 R4 O
  obtain ⟨k, hk, rfl, rfl, R1, R2, R3, R4, O⟩ := hrel
  by_cases hlt : k < 16
  ·have c := R1.cell hlt
   have d := R2.cell hlt
   have x := R4.cell (i := k) hlt
   have e := R4.free k
   obtain ⟨a0, a1⟩ := ha k hlt
   obtain ⟨b0, b1⟩ := hb k hlt
   obtain ⟨q0, q1⟩ := bor_bd ha hb k (by omega)
   have i1 : (0 : Int) ≤ (k : Int) := by omega
   have i2 : (k : Int) < 16 := by omega
   have ea := and16 (x := 65536 + a k - b k - bor a b k) (by omega) (by omega)
   have HB := hide (show bor a b (k + 1) = 1 - (65536 + a k - b k - bor a b k) / 65536 from rfl)
   have RR := hide (fun n => (rowN R4 n).set k ((65536 + a k - b k - bor a b k) % 65536))
   have R1' := hide (fun n => (rowN R1 n).other (a := ⟨w.heap.size + 1 + 1 + 1, k, none⟩) (by simp; omega) (.int .u64 ((65536 + a k - b k - bor a b k) % 65536)))
   have R2' := hide (fun n => (rowN R2 n).other (a := ⟨w.heap.size + 1 + 1 + 1, k, none⟩) (by simp) (.int .u64 ((65536 + a k - b k - bor a b k) % 65536)))
   have R3' := hide (fun n => (rowN R3 n).other (a := ⟨w.heap.size + 1 + 1 + 1, k, none⟩) (by simp) (.int .u64 ((65536 + a k - b k - bor a b k) % 65536)))
   have O' := hide (fun n => (belN (n := n) O).setCell (p := ⟨w.heap.size + 1 + 1 + 1, k, none⟩) (by simp; omega) (.int .u64 ((65536 + a k - b k - bor a b k) % 65536)))
   clear R1 R2 R3 R4 O
   generalize hbo : bor a b k = bo at *
   have HO := hide hbo
   clear hbo
   go_wp2_with fail
   go_quiet (fail)
   go_wp2
   exact ⟨⟨k + 1, by omega, by rw [HB.out], by go_num, R1'.out _, R2'.out _, R3'.out _, (RR.out _).congr (fun i _ => by
    unfold upd mk
    by_cases h : i = k
    ·subst h
     simp [minusF, HO.out]
    ·simp [h]
     omega), O'.out _⟩, by simp [intOf]; omega⟩
  ·have hk' : k = 16 := by omega
   subst hk'
   have e : arr 16 (mk a b 16) = arr 16 (minusF a b) := arr_congr fun i hi => by unfold mk; rw [if_pos hi]
   unfold Row at R4
   rw [e] at R4
   have RR := hide (R3.setAll (minusF a b))
   have OO := hide (below_setCells (g := w.heap.size + 1 + 1) (by omega) (arr 16 (minusF a b)).toList 0 O)
   go_wp2_with (first | (refine wpList_load_row rfl 36 _ rfl (w.heap.size + 1 + 1 + 1) rfl 36 (arr 16 (minusF a b)) (0, 0) _ R4 Tryz.underlying36 rfl (info36 _) ?_) | (refine wpList_store_mid rfl 36 _ _ rfl (w.heap.size + 1 + 1) 0 (arr 16 (minusF a b)) rfl rfl (by rw [arr_size]; exact R3.there) (info36 _) (arr_one _ _) ?_))
   exact bodyPost_ret (v := .agg (arr 16 (minusF a b))) (results_cell_row Tryz.results51 _ _ (w.heap.size + 1 + 1) 36 (arr 16 (minusF a b)) (0, 0) _ rfl RR.out Tryz.underlying36 rfl (info36 _)) rfl ⟨rfl, OO.out⟩
def cf (t : Nat → Int) : Nat → Int
 | 0 => 0
 | k + 1 => (t k + cf t k) / 65536
def lo (t : Nat → Int) : Nat → Int := fun i => (t i + cf t i) % 65536
theorem lo_dig (t : Nat → Int) (n : Nat) : Dig (lo t) n := fun i _ => by unfold lo; omega
theorem pass_S (t : Nat → Int) : ∀ k, S (lo t) k + cf t k * 65536 ^ k = S t k
 | 0 => by simp [S, cf]
 | k + 1 => by
  have ih := pass_S t k
  have e : cf t (k + 1) * 65536 ^ (k + 1) = 65536 * cf t (k + 1) * 65536 ^ k := by rw [p16s, ← Int.mul_assoc, Int.mul_comm (cf t (k + 1)) 65536]
  have e2 : lo t k = t k + cf t k - 65536 * cf t (k + 1) := by
   simp only [lo, cf]
   omega
  simp only [S]
  rw [e, e2, Int.sub_mul, Int.add_mul]
  omega
theorem S_shift (f : Nat → Int) (n : Nat) : ∀ m, S f (n + m) = S f n + 65536 ^ n * S (fun i => f (n + i)) m
 | 0 => by simp [S]
 | m + 1 => by
  have ih := S_shift f n m
  rw [← Nat.add_assoc]
  simp only [S]
  rw [ih, Int.mul_add, Int.pow_add, Int.mul_left_comm, Int.add_assoc]
theorem S_zero (n : Nat) : S (fun _ => 0) n = 0 := by
 induction n with
 | zero => rfl
 | succ n ih => simp only [S, ih]; simp
theorem S_upper_zero (f : Nat → Int) (h : ∀ i, 16 ≤ i → i < 32 → f i = 0) : S f 32 = S f 16 := by
 have e := S_shift f 16 16
 rw [show 16 + 16 = 32 from rfl] at e
 rw [e, S_congr (f := fun i => f (16 + i)) (g := fun _ => 0) fun i hi => h (16 + i) (by omega) (by omega), S_zero]
 simp
structure B48 (t : Nat → Int) : Prop where
 b : ∀ i, i < 32 → 0 ≤ t i ∧ t i < 281474976710656
theorem cf_bd {t : Nat → Int} (h : B48 t) : ∀ k, k ≤ 32 → 0 ≤ cf t k ∧ cf t k ≤ 8589934592
 | 0, _ => by simp [cf]
 | k + 1, hk => by
  have ih := cf_bd h k (by omega)
  have := h.b k (by omega)
  simp only [cf]
  omega
def d16 (N : Int) : Nat → Int := fun i => N / 65536 ^ i % 65536
theorem S_inj {f g : Nat → Int} : ∀ {n : Nat}, Dig f n → Dig g n → S f n = S g n → ∀ i, i < n → f i = g i
 | 0, _, _, _, i, hi => by omega
 | n + 1, hf, hg, h, i, hi => by
  have bf := S_bd (hf.le (m := n) (by omega))
  have bg := S_bd (hg.le (m := n) (by omega))
  have hp := p16 n
  simp only [S] at h
  have hn : f n = g n := by
   apply Classical.byContradiction
   intro hne
   have : f n < g n ∨ g n < f n := by omega
   rcases this with hl | hl
   ·have : (g n - f n) * 65536 ^ n ≥ 1 * 65536 ^ n := Int.mul_le_mul_of_nonneg_right (by omega) (by omega)
    rw [Int.sub_mul] at this
    omega
   ·have : (f n - g n) * 65536 ^ n ≥ 1 * 65536 ^ n := Int.mul_le_mul_of_nonneg_right (by omega) (by omega)
    rw [Int.sub_mul] at this
    omega
  by_cases hin : i = n
  ·rw [hin]; exact hn
  ·refine S_inj (n := n) (hf.le (by omega)) (hg.le (by omega)) ?_ i (by omega)
   rw [hn] at h
   omega
theorem d16_dig (N : Int) (n : Nat) : Dig (d16 N) n := fun i _ => by unfold d16; omega
theorem d16_S (N : Int) (h0 : 0 ≤ N) : ∀ n, S (d16 N) n = N % 65536 ^ n
 | 0 => by simp [S]
 | n + 1 => by
  simp only [S]
  rw [d16_S N h0 n, d16, Int.pow_succ]
  have hp := p16 n
  generalize (65536 : Int) ^ n = X at *
  have a := Int.mul_ediv_add_emod N X
  have b := Int.mul_ediv_add_emod (N / X) 65536
  have r0 := Int.emod_nonneg N (by omega : X ≠ 0)
  have r1 := Int.emod_lt_of_pos N hp
  have hN : N = (N % X + N / X % 65536 * X) + X * 65536 * (N / X / 65536) := by
   have e : X * (N / X) = X * (65536 * (N / X / 65536) + N / X % 65536) := by rw [b]
   rw [Int.mul_add] at e
   rw [Int.mul_comm (N / X % 65536) X, Int.mul_assoc]
   omega
  have q : N / X % 65536 * X ≤ 65535 * X := Int.mul_le_mul_of_nonneg_right (by omega) (by omega)
  have q0 : 0 ≤ N / X % 65536 * X := Int.mul_nonneg (by omega) (by omega)
  have hM : N % (X * 65536) = (N % X + N / X % 65536 * X + X * 65536 * (N / X / 65536)) % (X * 65536) := by rw [← hN]
  rw [hM, Int.add_mul_emod_self_left]
  exact (Int.emod_eq_of_lt (by omega) (by omega)).symm
def by16 (f : Nat → Int) (i : Nat) : Int := f (i / 2) / 256 ^ (i % 2) % 256
def rb (f : Nat → Int) (k : Nat) : List Int := (List.range 32).map fun i => if i < k then by16 f i else 0
def Byt (W : World) (g : Nat) (l : List Int) : Prop := W.heap[g]? = some (.cells (l.map (Value.int .u8)).toArray 5 (0, 0))
theorem Byt.cell {W : World} {g : Nat} {l : List Int} (h : Byt W g l) {i : Nat} (hi : i < l.length) : ∃ v, W.cell? ⟨g, i, none⟩ = some v := by
 rw [cell_of_row W g i _ 5 (0, 0) h]
 simp [hi]
theorem Byt.free {W : World} {g : Nat} {l : List Int} (h : Byt W g l) (i : Nat) : W.frozen? ⟨g, i, none⟩ = false := frozen_of_row W g i _ 5 h
theorem Byt.set {W : World} {g : Nat} {l : List Int} (h : Byt W g l) (k : Nat) (v : Int) : Byt (W.setCell ⟨g, k, none⟩ (.int .u8 v)) g (l.set k v) := by
 unfold Byt
 rw [heap_setCell_same W g k _ 5 _ h]
 simp [List.map_set]
theorem rbytes_any (f : Nat → Int) (w : World) (hf : Dig f 16) :
  Cs 16 #[.agg (arr 16 f)] w (.string (bs (rb f 32))) := _root_.Go.Proofs.YtmhfmhmpoobmlaaGreatDoor.rbytes_any f w hf
theorem digs4 {a b c d : Int} (ha : 0 ≤ a ∧ a < 65536) (hb : 0 ≤ b ∧ b < 65536) (hc : 0 ≤ c ∧ c < 65536) (_hd : 0 ≤ d ∧ d < 65536) :
  digs (a + 65536 * b + 4294967296 * c + 281474976710656 * d) = [a % 256, a / 256 % 256, b % 256, b / 256 % 256, c % 256, c / 256 % 256, d % 256, d / 256 % 256] := by
 unfold digs
 have h1 : (a + 65536 * b + 4294967296 * c + 281474976710656 * d) % 256 = a % 256 := by omega
 have h2 : (a + 65536 * b + 4294967296 * c + 281474976710656 * d) / 256 % 256 = a / 256 % 256 := by omega
 have h3 : (a + 65536 * b + 4294967296 * c + 281474976710656 * d) / 65536 % 256 = b % 256 := by omega
 have h4 : (a + 65536 * b + 4294967296 * c + 281474976710656 * d) / 16777216 % 256 = b / 256 % 256 := by omega
 have h5 : (a + 65536 * b + 4294967296 * c + 281474976710656 * d) / 4294967296 % 256 = c % 256 := by omega
 have h6 : (a + 65536 * b + 4294967296 * c + 281474976710656 * d) / 1099511627776 % 256 = c / 256 % 256 := by omega
 have h7 : (a + 65536 * b + 4294967296 * c + 281474976710656 * d) / 281474976710656 % 256 = d % 256 := by omega
 have h8 : (a + 65536 * b + 4294967296 * c + 281474976710656 * d) / 72057594037927936 % 256 = d / 256 % 256 := by omega
 rw [h1, h2, h3, h4, h5, h6, h7, h8]
theorem S16 (f : Nat → Int) : S f 16 = f 0 + f 1 * 65536 + f 2 * 4294967296 + f 3 * 281474976710656 + f 4 * 18446744073709551616 + f 5 * 1208925819614629174706176 + f 6 * 79228162514264337593543950336 + f 7 * 5192296858534827628530496329220096 + f 8 * 340282366920938463463374607431768211456 + f 9 * 22300745198530623141535718272648361505980416 + f 10 * 1461501637330902918203684832716283019655932542976 + f 11 * 95780971304118053647396689196894323976171195136475136 + f 12 * 6277101735386680763835789423207666416102355444464034512896 + f 13 * 411376139330301510538742295639337626245683966408394965837152256 + f 14 * 26959946667150639794667015087019630673637144422540572481103610249216 + f 15 * 1766847064778384329583297500742918515827483896875618958121606201292619776 := by
 simp [S]
theorem lebytes_S {f : Nat → Int} (hf : Dig f 16) : lebytes (S f 16) = bs (rb f 32) := by
 have h0 := hf 0 (by omega)
 have h1 := hf 1 (by omega)
 have h2 := hf 2 (by omega)
 have h3 := hf 3 (by omega)
 have h4 := hf 4 (by omega)
 have h5 := hf 5 (by omega)
 have h6 := hf 6 (by omega)
 have h7 := hf 7 (by omega)
 have h8 := hf 8 (by omega)
 have h9 := hf 9 (by omega)
 have h10 := hf 10 (by omega)
 have h11 := hf 11 (by omega)
 have h12 := hf 12 (by omega)
 have h13 := hf 13 (by omega)
 have h14 := hf 14 (by omega)
 have h15 := hf 15 (by omega)
 have e := S16 f
 have w0 : S f 16 % 18446744073709551616 = f 0 + 65536 * f 1 + 4294967296 * f 2 + 281474976710656 * f 3 := by rw [e]; omega
 have w1 : S f 16 / 18446744073709551616 % 18446744073709551616 = f 4 + 65536 * f 5 + 4294967296 * f 6 + 281474976710656 * f 7 := by rw [e]; omega
 have w2 : S f 16 / 340282366920938463463374607431768211456 % 18446744073709551616 = f 8 + 65536 * f 9 + 4294967296 * f 10 + 281474976710656 * f 11 := by rw [e]; omega
 have w3 : S f 16 / 6277101735386680763835789423207666416102355444464034512896 % 18446744073709551616 = f 12 + 65536 * f 13 + 4294967296 * f 14 + 281474976710656 * f 15 := by rw [e]; omega
 unfold lebytes
 rw [w0, w1, w2, w3, digs4 h0 h1 h2 h3, digs4 h4 h5 h6 h7, digs4 h8 h9 h10 h11, digs4 h12 h13 h14 h15]
 congr 1
 simp [rb, by16, List.range, List.range.loop]
def oF : Nat → Int := fun i => [54253, 23797, 25370, 22546, 40150, 41719, 63966, 5342, 0, 0, 0, 0, 0, 0, 0, 4096].getD i 0
theorem oF_S : S oF 16 = Lm := by decide +kernel
theorem oF_dig : Dig oF 16 := by
 have h : ∀ i : Fin 16, 0 ≤ oF i ∧ oF i < 65536 := by decide
 exact fun i hi => h ⟨i, hi⟩
theorem order_any (w : World) : Cs 15 #[] w (.agg (arr 16 oF)) := by
 go_enter Tryz.func15, Tryz.ntmps15
 go_wp2
 exact bodyPost_ret (v := .agg (arr 16 oF)) (by simp [results, Tryz.results15, go_sem]; rfl) rfl ⟨rfl, (Below.refl _ _).alloc (Nat.le_refl _) _⟩
def tc (a : Nat → Int) (one : Int) : Nat → Int
 | 0 => one
 | k + 1 => (2 * a k + tc a one k) / 65536
def tl (a : Nat → Int) (one : Int) : Nat → Int := fun k => (2 * a k + tc a one k) % 65536
theorem tc_bd {a : Nat → Int} {one : Int} (ha : Dig a 16) (h0 : 0 ≤ one) (h1 : one ≤ 1) : ∀ k, k ≤ 16 → 0 ≤ tc a one k ∧ tc a one k ≤ 1
 | 0, _ => ⟨h0, h1⟩
 | k + 1, h => by
  have ih := tc_bd ha h0 h1 k (by omega)
  have := ha k (by omega)
  simp only [tc]
  omega
theorem tl_dig (a : Nat → Int) (one : Int) (n : Nat) : Dig (tl a one) n := fun i _ => by unfold tl; omega
theorem tl_S (a : Nat → Int) (one : Int) : ∀ k, S (tl a one) k + tc a one k * 65536 ^ k = 2 * S a k + one
 | 0 => by simp [S, tc]
 | k + 1 => by
  have ih := tl_S a one k
  have e : tc a one (k + 1) * 65536 ^ (k + 1) = 65536 * tc a one (k + 1) * 65536 ^ k := by rw [p16s, ← Int.mul_assoc, Int.mul_comm (tc a one (k + 1)) 65536]
  have e2 : tl a one k = 2 * a k + tc a one k - 65536 * tc a one (k + 1) := by
   simp only [tl, tc]
   omega
  simp only [S]
  rw [e, e2, Int.sub_mul, Int.add_mul, Int.mul_add, ← Int.mul_assoc]
  omega
theorem twice_gen (a : Nat → Int) (one : Int) (w : World) (ha : Dig a 16) (h0 : 0 ≤ one) (h1 : one ≤ 1) :
  Cs 49 #[.agg (arr 16 a), .int .u64 one] w (.agg (arr 16 (tl a one))) := by
 go_enter Tryz.func49, Tryz.ntmps49
 go_wp2
 rw [show #[Value.int .u64 0, Value.int .u64 0, Value.int .u64 0, Value.int .u64 0, Value.int .u64 0, Value.int .u64 0, Value.int .u64 0, Value.int .u64 0, Value.int .u64 0, Value.int .u64 0, Value.int .u64 0, Value.int .u64 0, Value.int .u64 0, Value.int .u64 0, Value.int .u64 0, Value.int .u64 0] = arr 16 (fun _ => 0) from rfl]
 have R1 : Row (((w.alloc (.cells (arr 16 a) 36)).alloc (.cells (arr 16 fun _ => 0) 36)).alloc (.cells (arr 16 fun _ => 0) 36)) w.heap.size 36 16 a := ((Row.new w 36 16 a).alloc _).alloc _
 have R2 : Row (((w.alloc (.cells (arr 16 a) 36)).alloc (.cells (arr 16 fun _ => 0) 36)).alloc (.cells (arr 16 fun _ => 0) 36)) (w.heap.size + 1) 36 16 (fun _ => 0) := (Row.new' _ 36 16 _ (by simp)).alloc _
 have R3 : Row (((w.alloc (.cells (arr 16 a) 36)).alloc (.cells (arr 16 fun _ => 0) 36)).alloc (.cells (arr 16 fun _ => 0) 36)) (w.heap.size + 1 + 1) 36 16 (fun _ => 0) := Row.new' _ 36 16 _ (by simp)
 have O : Below w.heap.size w (((w.alloc (.cells (arr 16 a) 36)).alloc (.cells (arr 16 fun _ => 0) 36)).alloc (.cells (arr 16 fun _ => 0) 36)) := (((Below.refl _ _).alloc (Nat.le_refl _) _).alloc (by simp) _).alloc (by simp; omega) _
 generalize (((w.alloc (.cells (arr 16 a) 36)).alloc (.cells (arr 16 fun _ => 0) 36)).alloc (.cells (arr 16 fun _ => 0) 36)) = W at R1 R2 R3 O ⊢
 go_loopw [6, 7] (fun c i wr => ∃ k : Nat, k ≤ 16 ∧ c = .int .u64 (tc a one k) ∧ i = .int .i64 k ∧ Row wr w.heap.size 36 16 a ∧ Row wr (w.heap.size + 1) 36 16 (fun _ => 0) ∧ Row wr (w.heap.size + 1 + 1) 36 16 (upto k (tl a one) (fun _ => 0)) ∧ Below w.heap.size w wr) (fun _ i _ => 16 - (intOf i).toNat)
 case atStart => exact ⟨0, by omega, rfl, rfl, R1, R2, R3.congr (fun i _ => upto_zero (tl a one) (fun _ => 0) i), O⟩
 case round =>
  clear R1 R2 R3 O
  obtain ⟨k, hk, rfl, rfl, R1, R2, R3, O⟩ := hrel
  by_cases hlt : k < 16
  ·have c := R1.cell hlt
   have d := R3.cell (i := k) hlt
   have e := R3.free k
   obtain ⟨a0, a1⟩ := ha k hlt
   obtain ⟨b0, b1⟩ := tc_bd ha h0 h1 k hk
   have ea := and16 (x := 2 * a k + tc a one k) (by omega) (by omega)
   have HN := hide (show tc a one (k + 1) = (2 * a k + tc a one k) / 65536 from rfl)
   have RR := hide ((R3.set k ((2 * a k + tc a one k) % 65536)).congr (fun i _ => upto_next k (tl a one) (fun _ => 0) rfl i))
   have R1' := hide (R1.other (a := ⟨w.heap.size + 1 + 1, k, none⟩) (by simp <;> omega) (.int .u64 ((2 * a k + tc a one k) % 65536)))
   have R2' := hide (R2.other (a := ⟨w.heap.size + 1 + 1, k, none⟩) (by simp) (.int .u64 ((2 * a k + tc a one k) % 65536)))
   have O' := hide (O.setCell (p := ⟨w.heap.size + 1 + 1, k, none⟩) (by simp; omega) (.int .u64 ((2 * a k + tc a one k) % 65536)))
   clear R1 R2 R3 O
   go_wp2
   go_roundw
   case rel => exact ⟨k + 1, by omega, by rw [HN.out], by go_num, R1'.out, R2'.out, RR.out, O'.out⟩
   case measure => simp [intOf]; omega
  ·have hk' : k = 16 := by omega
   subst hk'
   replace R3 := R3.congr (f' := tl a one) (fun i hi => upto_end _ _ i hi)
   have RR := hide (R2.setAll (tl a one))
   have OO := hide (below_setCells (g := w.heap.size + 1) (by omega) (arr 16 (tl a one)).toList 0 O)
   have HX := hide R3
   clear R3 O R1
   go_wp2_with (first | (refine wpList_load_row rfl 36 _ rfl (w.heap.size + 1 + 1) rfl 36 (arr 16 (tl a one)) (0, 0) _ HX.out Tryz.underlying36 rfl (info36 _) ?_) | (refine wpList_store_mid rfl 36 _ _ rfl (w.heap.size + 1) 0 (arr 16 (tl a one)) rfl rfl ?tht (info36 _) (arr_one _ _) ?_))
   case tht => rw [arr_size]; exact R2.there
   exact bodyPost_ret (v := .agg (arr 16 (tl a one))) (results_cell_row Tryz.results49 _ _ (w.heap.size + 1) 36 (arr 16 (tl a one)) (0, 0) _ rfl RR.out Tryz.underlying36 rfl (info36 _)) rfl ⟨rfl, OO.out⟩
theorem L16 : 2 * Lm + 1 < 65536 ^ 16 := by decide
theorem dSL {N : Int} (h0 : 0 ≤ N) (h1 : N < 65536 ^ 16) : S (d16 N) 16 = N := by rw [d16_S _ h0, Int.emod_eq_of_lt h0 h1]
theorem twice_any (N one : Int) (w : World) (hN : 0 ≤ N ∧ N < Lm) (h0 : 0 ≤ one) (h1 : one ≤ 1) :
  Cs 49 #[.agg (arr 16 (d16 N)), .int .u64 one] w (.agg (arr 16 (d16 (2 * N + one)))) := by
 have hL := L16
 have e := tl_S (d16 N) one 16
 have hc := tc_bd (d16_dig N 16) h0 h1 16 (by omega)
 have hb := S_bd (tl_dig (d16 N) one 16)
 rw [dSL hN.1 (by omega)] at e
 have hs : S (tl (d16 N) one) 16 = 2 * N + one := by
  rcases (show tc (d16 N) one 16 = 0 ∨ tc (d16 N) one 16 = 1 by omega) with h | h
  ·rw [h] at e; omega
  ·rw [h] at e; omega
 have := twice_gen (d16 N) one w (d16_dig N 16) h0 h1
 rwa [arr_congr (S_inj (tl_dig (d16 N) one 16) (d16_dig (2 * N + one) 16) (by rw [hs, dSL (by omega) (by omega)]))] at this
theorem low_any (f : Nat → Int) (w : World) :
  Cs 83 #[.agg (arr 8 f)] w (.agg (arr 4 f)) := by
 have R1 : Row ((w.alloc (.cells (arr 8 f) 96)).alloc (.cells #[Value.int .u64 0, Value.int .u64 0, Value.int .u64 0, Value.int .u64 0] 42)) w.heap.size 96 8 f := (Row.new w 96 8 f).alloc _
 have c0 := R1.cell (i := 0) (by omega)
 have c1 := R1.cell (i := 1) (by omega)
 have c2 := R1.cell (i := 2) (by omega)
 have c3 := R1.cell (i := 3) (by omega)
 clear R1
 have har : ∀ w', (Instr.arrayAt 42 (.slice (some ⟨w.heap.size, 0, none⟩) 4 8)).run Tryz.prog w' = .ok (.pointer (some ⟨w.heap.size, 0, none⟩)) w' := fun _ => by kernel_rfl
 go_enter Tryz.func83, Tryz.ntmps83
 go_wp2
 exact bodyPost_ret (v := .agg (arr 4 f)) (by simp [results, Tryz.results83, go_sem]; rfl) rfl ⟨rfl, ((Below.refl _ _).alloc (Nat.le_refl _) _).alloc (by simp) _⟩
def bt (s : ByteArray) (i : Nat) : Int := ((s.data[i]?.getD 0).toNat : Int)
theorem bt_bd (s : ByteArray) (i : Nat) : 0 ≤ bt s i ∧ bt s i < 256 := by
 unfold bt
 have := (s.data[i]?.getD 0).toNat_lt
 omega
theorem bt_at (s : ByteArray) (i : Nat) (h : i < s.size) : ((s[i]'h).toNat : Int) = bt s i := by
 unfold bt
 have h' : i < s.data.size := h
 rw [Array.getElem?_eq_getElem h']
 rfl
def sw (s : ByteArray) (j : Nat) : Nat → Int
 | 0 => 0
 | r + 1 => sw s j r + bt s (8 * j + r) * 256 ^ r
theorem sw_bd (s : ByteArray) (j r : Nat) : 0 ≤ sw s j r ∧ sw s j r < 256 ^ r := by
 induction r with
 | zero => simp [sw]
 | succ r ih =>
  have hb := bt_bd s (8 * j + r)
  have hp : (0 : Int) < 256 ^ r := Int.pow_pos (by decide)
  have h1 : bt s (8 * j + r) * 256 ^ r ≤ 255 * 256 ^ r := Int.mul_le_mul_of_nonneg_right (by omega) (by omega)
  have h2 : 0 ≤ bt s (8 * j + r) * 256 ^ r := Int.mul_nonneg hb.1 (by omega)
  have h3 : (256 : Int) ^ (r + 1) = 256 * 256 ^ r := by rw [Int.pow_succ, Int.mul_comm]
  simp only [sw]
  omega
theorem swor0 (s : ByteArray) (j i : Nat) (hi : i = 8 * j + 0) : bits BinOp.or IntKind.u64 0 (bt s i) = sw s j 1 := by
 have hb := bt_bd s i
 rw [or_join 8 256 (by decide) ⟨by decide, by decide⟩ ⟨hb.1, by omega⟩ (by decide) (by omega)]
 simp [sw, hi]
theorem swor1 (s : ByteArray) (j i : Nat) (hi : i = 8 * j + 1) : bits BinOp.or IntKind.u64 (sw s j 1) (bt s i * 256) = sw s j 2 := by
 have hb := bt_bd s i
 have hs := sw_bd s j 1
 have e : (256 : Int) ^ 1 = 256 := by decide
 rw [e] at hs
 rw [or_join' 8 256 (by decide) ⟨hs.1, by omega⟩ ⟨by omega, by omega⟩ (by omega) (by omega)]
 show _ = sw s j 1 + bt s (8 * j + 1) * 256 ^ 1
 rw [e, hi]
theorem swor2 (s : ByteArray) (j i : Nat) (hi : i = 8 * j + 2) : bits BinOp.or IntKind.u64 (sw s j 2) (bt s i * 65536) = sw s j 3 := by
 have hb := bt_bd s i
 have hs := sw_bd s j 2
 have e : (256 : Int) ^ 2 = 65536 := by decide
 rw [e] at hs
 rw [or_join' 16 65536 (by decide) ⟨hs.1, by omega⟩ ⟨by omega, by omega⟩ (by omega) (by omega)]
 show _ = sw s j 2 + bt s (8 * j + 2) * 256 ^ 2
 rw [e, hi]
theorem swor3 (s : ByteArray) (j i : Nat) (hi : i = 8 * j + 3) : bits BinOp.or IntKind.u64 (sw s j 3) (bt s i * 16777216) = sw s j 4 := by
 have hb := bt_bd s i
 have hs := sw_bd s j 3
 have e : (256 : Int) ^ 3 = 16777216 := by decide
 rw [e] at hs
 rw [or_join' 24 16777216 (by decide) ⟨hs.1, by omega⟩ ⟨by omega, by omega⟩ (by omega) (by omega)]
 show _ = sw s j 3 + bt s (8 * j + 3) * 256 ^ 3
 rw [e, hi]
theorem swor4 (s : ByteArray) (j i : Nat) (hi : i = 8 * j + 4) : bits BinOp.or IntKind.u64 (sw s j 4) (bt s i * 4294967296) = sw s j 5 := by
 have hb := bt_bd s i
 have hs := sw_bd s j 4
 have e : (256 : Int) ^ 4 = 4294967296 := by decide
 rw [e] at hs
 rw [or_join' 32 4294967296 (by decide) ⟨hs.1, by omega⟩ ⟨by omega, by omega⟩ (by omega) (by omega)]
 show _ = sw s j 4 + bt s (8 * j + 4) * 256 ^ 4
 rw [e, hi]
theorem swor5 (s : ByteArray) (j i : Nat) (hi : i = 8 * j + 5) : bits BinOp.or IntKind.u64 (sw s j 5) (bt s i * 1099511627776) = sw s j 6 := by
 have hb := bt_bd s i
 have hs := sw_bd s j 5
 have e : (256 : Int) ^ 5 = 1099511627776 := by decide
 rw [e] at hs
 rw [or_join' 40 1099511627776 (by decide) ⟨hs.1, by omega⟩ ⟨by omega, by omega⟩ (by omega) (by omega)]
 show _ = sw s j 5 + bt s (8 * j + 5) * 256 ^ 5
 rw [e, hi]
theorem swor6 (s : ByteArray) (j i : Nat) (hi : i = 8 * j + 6) : bits BinOp.or IntKind.u64 (sw s j 6) (bt s i * 281474976710656) = sw s j 7 := by
 have hb := bt_bd s i
 have hs := sw_bd s j 6
 have e : (256 : Int) ^ 6 = 281474976710656 := by decide
 rw [e] at hs
 rw [or_join' 48 281474976710656 (by decide) ⟨hs.1, by omega⟩ ⟨by omega, by omega⟩ (by omega) (by omega)]
 show _ = sw s j 6 + bt s (8 * j + 6) * 256 ^ 6
 rw [e, hi]
theorem swor7 (s : ByteArray) (j i : Nat) (hi : i = 8 * j + 7) : bits BinOp.or IntKind.u64 (sw s j 7) (bt s i * 72057594037927936) = sw s j 8 := by
 have hb := bt_bd s i
 have hs := sw_bd s j 7
 have e : (256 : Int) ^ 7 = 72057594037927936 := by decide
 rw [e] at hs
 rw [or_join' 56 72057594037927936 (by decide) ⟨hs.1, by omega⟩ ⟨by omega, by omega⟩ (by omega) (by omega)]
 show _ = sw s j 7 + bt s (8 * j + 7) * 256 ^ 7
 rw [e, hi]
def val (s : ByteArray) : Int := sw s 0 8 + 18446744073709551616 * sw s 1 8 + 340282366920938463463374607431768211456 * sw s 2 8 + 6277101735386680763835789423207666416102355444464034512896 * sw s 3 8
theorem and1u {x : Int} (h0 : 0 ≤ x) (h1 : x < 256) : bits .and .u8 x 1 = x % 2 := by
 obtain ⟨X, rfl⟩ := Int.eq_ofNat_of_zero_le h0
 have hX : X < 256 := by omega
 have h : ∀ n : Fin 256, bits .and .u8 ((n.val : Nat) : Int) 1 = ((n.val : Nat) : Int) % 2 := by decide +kernel
 exact h ⟨X, hX⟩
def bit (s : ByteArray) (i : Nat) : Int := bt s (i / 8) / 2 ^ (i % 8) % 2
def ov (s : ByteArray) (n : Nat) : Nat → Int
 | 0 => 0
 | k + 1 => (2 * ov s n k + bit s (n - 1 - k)) % Lm
theorem ov_next (s : ByteArray) (n : Nat) (N : Int) {p : Nat} {b : Int} (hp : p + 1 ≤ n) (hb : bit s p = b) (hN : N = ov s n (n - (p + 1))) :
  (0 ≤ 2 * N + b → 2 * N + b < Lm → 2 * N + b = ov s n (n - p)) ∧ (2 * N + b < 2 * Lm → ¬ 2 * N + b < Lm → 2 * N + b - Lm = ov s n (n - p)) := by
 have e : n - p = n - (p + 1) + 1 := by omega
 have e2 : n - 1 - (n - (p + 1)) = p := by omega
 have e3 : ov s n (n - p) = (2 * N + b) % Lm := by
  rw [e]
  show (2 * ov s n (n - (p + 1)) + bit s (n - 1 - (n - (p + 1)))) % Lm = _
  rw [e2, hb, ← hN]
 rw [e3]
 refine ⟨fun h0 h1 => (Int.emod_eq_of_lt h0 h1).symm, fun h1 h2 => ?_⟩
 have e4 : (2 * N + b) % Lm = (2 * N + b - Lm) % Lm := by rw [Int.sub_emod_right]
 rw [e4, Int.emod_eq_of_lt (by omega) (by omega)]
theorem sub_val {X : Int} (h : ¬ X < Lm) (h1 : X < 2 * Lm) : arr 16 (minusF (d16 X) oF) = arr 16 (d16 (X - Lm)) := by
 have hL := L16
 have hX : S (d16 X) 16 = X := dSL (by have := Lm_pos; omega) (by omega)
 refine arr_congr (S_inj (minusF_dig _ _ 16) (d16_dig _ 16) ?_)
 rw [minus_le (d16_dig X 16) oF_dig (by rw [hX, oF_S]; omega), hX, oF_S, dSL (by omega) (by omega)]
theorem rof_any (s : ByteArray) (n : Nat) (w : World) (hs : s.size ≤ 64) (hn : n = 8 * s.size) :
  Cs 22 #[.string s] w (.agg (arr 16 (d16 (ov s n n)))) := by
 have n1 : IntKind.i64.wrap (8 * (s.size : Int)) = 8 * (s.size : Int) := by rw [IntKind.wrap_i64]; omega
 have n2 : IntKind.i64.wrap (8 * (s.size : Int) - 1) = 8 * (s.size : Int) - 1 := by rw [IntKind.wrap_i64]; omega
 have Hn := hide hn
 clear hn
 go_enter Tryz.func22, Tryz.ntmps22
 go_wp2
 rw [show #[Value.int .u64 0, Value.int .u64 0, Value.int .u64 0, Value.int .u64 0, Value.int .u64 0, Value.int .u64 0, Value.int .u64 0, Value.int .u64 0, Value.int .u64 0, Value.int .u64 0, Value.int .u64 0, Value.int .u64 0, Value.int .u64 0, Value.int .u64 0, Value.int .u64 0, Value.int .u64 0] = arr 16 (fun _ => 0) from rfl]
 have R1 : Row ((w.alloc (.cells (arr 16 fun _ => 0) 36)).alloc (.cells (arr 16 fun _ => 0) 36)) w.heap.size 36 16 (fun _ => 0) := (Row.new w 36 16 _).alloc _
 have R2 : Row ((w.alloc (.cells (arr 16 fun _ => 0) 36)).alloc (.cells (arr 16 fun _ => 0) 36)) (w.heap.size + 1) 36 16 (fun _ => 0) := Row.new' _ 36 16 _ (by simp)
 have O : Below w.heap.size w ((w.alloc (.cells (arr 16 fun _ => 0) 36)).alloc (.cells (arr 16 fun _ => 0) 36)) := ((Below.refl _ _).alloc (Nat.le_refl _) _).alloc (by simp) _
 generalize ((w.alloc (.cells (arr 16 fun _ => 0) 36)).alloc (.cells (arr 16 fun _ => 0) 36)) = W at R1 R2 O ⊢
 go_loopw [4] (fun v wr => ∃ m : Nat, m ≤ n ∧ (∃ x : Int, x = (m : Int) - 1 ∧ v = .int .i64 x) ∧ Row wr w.heap.size 36 16 (fun _ => 0) ∧ (∃ N, N = ov s n (n - m) ∧ 0 ≤ N ∧ N < Lm ∧ Row wr (w.heap.size + 1) 36 16 (d16 N)) ∧ Below w.heap.size w wr) (fun v _ => (intOf v + 1).toNat)
 case atStart => exact ⟨n, Nat.le_refl _, ⟨_, by rw [Hn.out]; omega, rfl⟩, R1, ⟨0, by rw [Nat.sub_self]; rfl, by omega, Lm_pos, R2.congr (fun i _ => by simp [d16])⟩, O⟩
 case round =>
  clear R1 R2 O
  obtain ⟨m, hm, ⟨x, hx, hi⟩, R1, ⟨N, hN, hN0, hN1, R2⟩, O⟩ := hrel
  rcases m with _ | p
  ·have e : x = -1 := by omega
   subst e
   subst hi
   rw [Nat.sub_zero] at hN
   have HN := hide hN
   clear hN hx n1 n2
   have RR := hide (R1.setAll (d16 N))
   have OO := hide (below_setCells (g := w.heap.size) (Nat.le_refl _) (arr 16 (d16 N)).toList 0 O)
   have HX := hide R2
   clear R2 O
   go_wp2_with (first | (refine wpList_load_row rfl 36 _ rfl (w.heap.size + 1) rfl 36 (arr 16 (d16 N)) (0, 0) _ HX.out Tryz.underlying36 rfl (info36 _) ?_) | (refine wpList_store_mid rfl 36 _ _ rfl w.heap.size 0 (arr 16 (d16 N)) rfl rfl ?tho (info36 _) (arr_one _ _) ?_))
   case tho => rw [arr_size]; exact R1.there
   exact bodyPost_ret (v := .agg (arr 16 (d16 N))) (results_cell_row Tryz.results22 _ _ w.heap.size 36 (arr 16 (d16 N)) (0, 0) _ rfl RR.out Tryz.underlying36 rfl (info36 _)) rfl ⟨by rw [HN.out], OO.out⟩
  ·have hpn : p + 1 ≤ n := hm
   have hps : p < 8 * s.size := by rw [← Hn.out]; omega
   have hp : p % 8 < 8 := by omega
   rcases (show p % 8 = 0 ∨ p % 8 = 1 ∨ p % 8 = 2 ∨ p % 8 = 3 ∨ p % 8 = 4 ∨ p % 8 = 5 ∨ p % 8 = 6 ∨ p % 8 = 7 by omega) with h8 | h8 | h8 | h8 | h8 | h8 | h8 | h8
   ·have e : x = (p : Int) := by omega
    subst e
    subst hi
    have a1 : (0 : Int) ≤ (p : Int) / 8 := by omega
    have a2 : (p : Int) / 8 < (s.size : Int) := by omega
    have a3 : (p : Int) % 8 = 0 := by omega
    have a4 : p / 8 < s.size := by omega
    have a5 := bt_at s (p / 8) a4
    have a6 := bt_bd s (p / 8)
    have a7 : p % 8 = 0 := by omega
    have eb : bits BinOp.and IntKind.u8 (bt s (p / 8)) 1 = bt s (p / 8) % 2 := and1u (by omega) (by omega)
    have ew : IntKind.u64.wrap (bt s (p / 8) % 2) = bt s (p / 8) % 2 := wrap64u ⟨by omega, by omega⟩
    have hbit : bit s p = bt s (p / 8) % 2 := by unfold bit; rw [a7]; simp
    have HB := hide hbit
    have hb0 : 0 ≤ bt s (p / 8) % 2 := by omega
    have hb1 : bt s (p / 8) % 2 ≤ 1 := by omega
    have HV := hide (ov_next s n N hpn HB.out hN)
    have HH := hide (And.intro hN0 (And.intro hN1 (And.intro hb0 hb1)))
    clear n1 n2 hm hp hx hbit hN hN0 hN1 hb0 hb1
    have gl := R2.lt
    go_wp2_with fail
    have hne := KW.some wr
    have hg : ∀ w', (∃ s : KW wr, w' = s.w) → w'.heap[w.heap.size + 1]? = some (.cells (arr 16 (d16 N)) 36 (0, 0)) := by
     rintro _ ⟨s, rfl⟩
     exact R2.keep s.keep
    have HG := hide hg
    have KK := hide (And.intro R1 (And.intro R2 O))
    clear hg R1 R2 O
    refine wp_region_keep_tail 12 (by kernel_rfl) (by kernel_rfl) ?_
    simp only [List.take_succ_cons, List.take_zero, List.drop_succ_cons, List.drop_zero]
    go_big_quiet_want
    refine quiet_load_row 36 _ rfl (w.heap.size + 1) rfl 36 (arr 16 (d16 N)) (0, 0) _ HG.out Tryz.underlying36 rfl (info36 _) ?_
    go_simp
    go_big_quiet_on
    go_big_quiet_step (fail)
    go_big_quiet_step (fail)
    go_big_quiet_step (fail)
    go_big_quiet_step (fail)
    go_big_quiet_step (fail)
    go_big_quiet_step (fail)
    go_big_quiet_step (fail)
    go_big_quiet_step (fail)
    go_big_quiet_step (fail)
    go_big_quiet_step (fail)
    go_big_quiet_step ((exact keep_of (twice_any N _ _ ⟨HH.out.1, HH.out.2.1⟩ HH.out.2.2.1 HH.out.2.2.2)))
    refine wpQuiet_nil ?_
    intro t
    obtain ⟨R1, R2, O⟩ := KK.out
    replace R1 := R1.keep t.keep
    replace R2 := R2.keep t.keep
    replace O := O.trans (t.keep.mono O.size)
    clear KK HG hne eb ew
    generalize t.w = W8 at *
    have hX0 : 0 ≤ 2 * N + bt s (p / 8) % 2 := by have := HH.out; omega
    have hX1 : 2 * N + bt s (p / 8) % 2 < 2 * Lm := by have := HH.out; omega
    generalize 2 * N + bt s (p / 8) % 2 = X at *
    have RR := hide (R2.setAll (d16 X))
    have R1' := hide (R1.setOther (k := w.heap.size + 1) (by omega) 0 (arr 16 (d16 X)).toList)
    have O' := hide (below_setCells (g := w.heap.size + 1) (by omega) (arr 16 (d16 X)).toList 0 O)
    have HX := hide (And.intro hX0 hX1)
    clear R1 O hX0 hX1 HH
    go_wp2_with (refine wpList_store_mid rfl 36 _ _ rfl (w.heap.size + 1) 0 (arr 16 (d16 X)) rfl rfl ?th0 (info36 _) (arr_one _ _) ?_)
    case th0 => rw [arr_size]; exact R2.there
    try rw [show ∀ (a : Act) (v : Value), a.put none v = a from fun _ _ => rfl]
    have R1 := R1'.out
    replace R2 := RR.out
    have O := O'.out
    clear R1' RR O'
    generalize W8.setCells (w.heap.size + 1) 0 (arr 16 (d16 X)).toList = W9 at *
    have hL := L16
    have hSX : S (d16 X) 16 = X := dSL HX.out.1 (by have := HX.out; omega)
    have HSX := hide hSX
    clear hSX hL
    have hne := KW.some W9
    have hg : ∀ w', (∃ s : KW W9, w' = s.w) → w'.heap[w.heap.size + 1]? = some (.cells (arr 16 (d16 X)) 36 (0, 0)) := by
     rintro _ ⟨s, rfl⟩
     exact R2.keep s.keep
    have HG := hide hg
    have KK := hide (And.intro R1 (And.intro R2 O))
    clear hg R1 R2 O
    refine wp_region_keep (by kernel_rfl) (by kernel_rfl) ?_
    go_big_quiet_want
    refine quiet_load_row 36 _ rfl (w.heap.size + 1) rfl 36 (arr 16 (d16 X)) (0, 0) _ HG.out Tryz.underlying36 rfl (info36 _) ?_
    go_simp
    go_big_quiet_on
    go_big_quiet_step ((exact keep_of (order_any _)))
    go_big_quiet_step ((exact keep_of (less_any (d16 X) oF _ (d16_dig _ 16) oF_dig)))
    rw [HSX.out, oF_S]
    by_cases hlt2 : X < Lm
    ·rw [decide_eq_true hlt2]
     go_big_quiet_step (fail)
     refine wpQuiet_nil ?_
     intro t
     obtain ⟨R1, R2, O⟩ := KK.out
     replace R1 := R1.keep t.keep
     replace R2 := R2.keep t.keep
     replace O := O.trans (t.keep.mono O.size)
     clear KK HG hne
     generalize t.w = W10 at *
     have HE := hide (HV.out.1 HX.out.1 hlt2)
     go_wp2
     go_roundw
     case rel => exact ⟨p, by omega, ⟨_, rfl, rfl⟩, R1, ⟨X, HE.out, HX.out.1, hlt2, R2⟩, O⟩
     case measure => simp [intOf]
    ·rw [decide_eq_false hlt2]
     go_big_quiet_step (fail)
     refine wpQuiet_nil ?_
     intro t
     obtain ⟨R1, R2, O⟩ := KK.out
     replace R1 := R1.keep t.keep
     replace R2 := R2.keep t.keep
     replace O := O.trans (t.keep.mono O.size)
     clear KK HG hne
     generalize t.w = W10 at *
     have HE := hide (HV.out.2 HX.out.2 (by omega))
     have hm2 : arr 16 (minusF (d16 X) oF) = arr 16 (d16 (X - Lm)) := sub_val hlt2 HX.out.2
     have HM := hide hm2
     clear hm2
     go_wp2_with fail
     have hne := KW.some W10
     have hg : ∀ w', (∃ s : KW W10, w' = s.w) → w'.heap[w.heap.size + 1]? = some (.cells (arr 16 (d16 X)) 36 (0, 0)) := by
      rintro _ ⟨s, rfl⟩
      exact R2.keep s.keep
     have HG := hide hg
     have KK := hide (And.intro R1 (And.intro R2 O))
     clear hg R1 R2 O
     refine wp_region_keep_tail 3 (by kernel_rfl) (by kernel_rfl) ?_
     simp only [List.take_succ_cons, List.take_zero, List.drop_succ_cons, List.drop_zero]
     go_big_quiet_want
     refine quiet_load_row 36 _ rfl (w.heap.size + 1) rfl 36 (arr 16 (d16 X)) (0, 0) _ HG.out Tryz.underlying36 rfl (info36 _) ?_
     go_simp
     go_big_quiet_on
     go_big_quiet_step ((exact keep_of (order_any _)))
     go_big_quiet_step ((exact keep_of (rminus_any (d16 X) oF _ (d16_dig _ 16) oF_dig)))
     refine wpQuiet_nil ?_
     intro t2
     obtain ⟨R1, R2, O⟩ := KK.out
     replace R1 := R1.keep t2.keep
     replace R2 := R2.keep t2.keep
     replace O := O.trans (t2.keep.mono O.size)
     clear KK HG hne
     rw [HM.out]
     generalize t2.w = W11 at *
     have RR := hide (R2.setAll (d16 (X - Lm)))
     have R1' := hide (R1.setOther (k := w.heap.size + 1) (by omega) 0 (arr 16 (d16 (X - Lm))).toList)
     have O' := hide (below_setCells (g := w.heap.size + 1) (by omega) (arr 16 (d16 (X - Lm))).toList 0 O)
     clear R1 O
     go_wp2_with (refine wpList_store_mid rfl 36 _ _ rfl (w.heap.size + 1) 0 (arr 16 (d16 (X - Lm))) rfl rfl ?tm0 (info36 _) (arr_one _ _) ?_)
     case tm0 => rw [arr_size]; exact R2.there
     go_roundw
     case rel => exact ⟨p, by omega, ⟨_, rfl, rfl⟩, R1'.out, ⟨X - Lm, HE.out, by omega, by have := HX.out; omega, RR.out⟩, O'.out⟩
     case measure => simp [intOf]
   ·have e : x = (p : Int) := by omega
    subst e
    subst hi
    have a1 : (0 : Int) ≤ (p : Int) / 8 := by omega
    have a2 : (p : Int) / 8 < (s.size : Int) := by omega
    have a3 : (p : Int) % 8 = 1 := by omega
    have a4 : p / 8 < s.size := by omega
    have a5 := bt_at s (p / 8) a4
    have a6 := bt_bd s (p / 8)
    have a7 : p % 8 = 1 := by omega
    have eb : bits BinOp.and IntKind.u8 (bt s (p / 8) / 2) 1 = bt s (p / 8) / 2 % 2 := and1u (by omega) (by omega)
    have ew : IntKind.u64.wrap (bt s (p / 8) / 2 % 2) = bt s (p / 8) / 2 % 2 := wrap64u ⟨by omega, by omega⟩
    have hbit : bit s p = bt s (p / 8) / 2 % 2 := by unfold bit; rw [a7]; rfl
    have HB := hide hbit
    have hb0 : 0 ≤ bt s (p / 8) / 2 % 2 := by omega
    have hb1 : bt s (p / 8) / 2 % 2 ≤ 1 := by omega
    have HV := hide (ov_next s n N hpn HB.out hN)
    have HH := hide (And.intro hN0 (And.intro hN1 (And.intro hb0 hb1)))
    clear n1 n2 hm hp hx hbit hN hN0 hN1 hb0 hb1
    have gl := R2.lt
    go_wp2_with fail
    have hne := KW.some wr
    have hg : ∀ w', (∃ s : KW wr, w' = s.w) → w'.heap[w.heap.size + 1]? = some (.cells (arr 16 (d16 N)) 36 (0, 0)) := by
     rintro _ ⟨s, rfl⟩
     exact R2.keep s.keep
    have HG := hide hg
    have KK := hide (And.intro R1 (And.intro R2 O))
    clear hg R1 R2 O
    refine wp_region_keep_tail 12 (by kernel_rfl) (by kernel_rfl) ?_
    simp only [List.take_succ_cons, List.take_zero, List.drop_succ_cons, List.drop_zero]
    go_big_quiet_want
    refine quiet_load_row 36 _ rfl (w.heap.size + 1) rfl 36 (arr 16 (d16 N)) (0, 0) _ HG.out Tryz.underlying36 rfl (info36 _) ?_
    go_simp
    go_big_quiet_on
    go_big_quiet_step (fail)
    go_big_quiet_step (fail)
    go_big_quiet_step (fail)
    go_big_quiet_step (fail)
    go_big_quiet_step (fail)
    go_big_quiet_step (fail)
    go_big_quiet_step (fail)
    go_big_quiet_step (fail)
    go_big_quiet_step (fail)
    go_big_quiet_step (fail)
    go_big_quiet_step ((exact keep_of (twice_any N _ _ ⟨HH.out.1, HH.out.2.1⟩ HH.out.2.2.1 HH.out.2.2.2)))
    refine wpQuiet_nil ?_
    intro t
    obtain ⟨R1, R2, O⟩ := KK.out
    replace R1 := R1.keep t.keep
    replace R2 := R2.keep t.keep
    replace O := O.trans (t.keep.mono O.size)
    clear KK HG hne eb ew
    generalize t.w = W8 at *
    have hX0 : 0 ≤ 2 * N + bt s (p / 8) / 2 % 2 := by have := HH.out; omega
    have hX1 : 2 * N + bt s (p / 8) / 2 % 2 < 2 * Lm := by have := HH.out; omega
    generalize 2 * N + bt s (p / 8) / 2 % 2 = X at *
    have RR := hide (R2.setAll (d16 X))
    have R1' := hide (R1.setOther (k := w.heap.size + 1) (by omega) 0 (arr 16 (d16 X)).toList)
    have O' := hide (below_setCells (g := w.heap.size + 1) (by omega) (arr 16 (d16 X)).toList 0 O)
    have HX := hide (And.intro hX0 hX1)
    clear R1 O hX0 hX1 HH
    go_wp2_with (refine wpList_store_mid rfl 36 _ _ rfl (w.heap.size + 1) 0 (arr 16 (d16 X)) rfl rfl ?th1 (info36 _) (arr_one _ _) ?_)
    case th1 => rw [arr_size]; exact R2.there
    try rw [show ∀ (a : Act) (v : Value), a.put none v = a from fun _ _ => rfl]
    have R1 := R1'.out
    replace R2 := RR.out
    have O := O'.out
    clear R1' RR O'
    generalize W8.setCells (w.heap.size + 1) 0 (arr 16 (d16 X)).toList = W9 at *
    have hL := L16
    have hSX : S (d16 X) 16 = X := dSL HX.out.1 (by have := HX.out; omega)
    have HSX := hide hSX
    clear hSX hL
    have hne := KW.some W9
    have hg : ∀ w', (∃ s : KW W9, w' = s.w) → w'.heap[w.heap.size + 1]? = some (.cells (arr 16 (d16 X)) 36 (0, 0)) := by
     rintro _ ⟨s, rfl⟩
     exact R2.keep s.keep
    have HG := hide hg
    have KK := hide (And.intro R1 (And.intro R2 O))
    clear hg R1 R2 O
    refine wp_region_keep (by kernel_rfl) (by kernel_rfl) ?_
    go_big_quiet_want
    refine quiet_load_row 36 _ rfl (w.heap.size + 1) rfl 36 (arr 16 (d16 X)) (0, 0) _ HG.out Tryz.underlying36 rfl (info36 _) ?_
    go_simp
    go_big_quiet_on
    go_big_quiet_step ((exact keep_of (order_any _)))
    go_big_quiet_step ((exact keep_of (less_any (d16 X) oF _ (d16_dig _ 16) oF_dig)))
    rw [HSX.out, oF_S]
    by_cases hlt2 : X < Lm
    ·rw [decide_eq_true hlt2]
     go_big_quiet_step (fail)
     refine wpQuiet_nil ?_
     intro t
     obtain ⟨R1, R2, O⟩ := KK.out
     replace R1 := R1.keep t.keep
     replace R2 := R2.keep t.keep
     replace O := O.trans (t.keep.mono O.size)
     clear KK HG hne
     generalize t.w = W10 at *
     have HE := hide (HV.out.1 HX.out.1 hlt2)
     go_wp2
     go_roundw
     case rel => exact ⟨p, by omega, ⟨_, rfl, rfl⟩, R1, ⟨X, HE.out, HX.out.1, hlt2, R2⟩, O⟩
     case measure => simp [intOf]
    ·rw [decide_eq_false hlt2]
     go_big_quiet_step (fail)
     refine wpQuiet_nil ?_
     intro t
     obtain ⟨R1, R2, O⟩ := KK.out
     replace R1 := R1.keep t.keep
     replace R2 := R2.keep t.keep
     replace O := O.trans (t.keep.mono O.size)
     clear KK HG hne
     generalize t.w = W10 at *
     have HE := hide (HV.out.2 HX.out.2 (by omega))
     have hm2 : arr 16 (minusF (d16 X) oF) = arr 16 (d16 (X - Lm)) := sub_val hlt2 HX.out.2
     have HM := hide hm2
     clear hm2
     go_wp2_with fail
     have hne := KW.some W10
     have hg : ∀ w', (∃ s : KW W10, w' = s.w) → w'.heap[w.heap.size + 1]? = some (.cells (arr 16 (d16 X)) 36 (0, 0)) := by
      rintro _ ⟨s, rfl⟩
      exact R2.keep s.keep
     have HG := hide hg
     have KK := hide (And.intro R1 (And.intro R2 O))
     clear hg R1 R2 O
     refine wp_region_keep_tail 3 (by kernel_rfl) (by kernel_rfl) ?_
     simp only [List.take_succ_cons, List.take_zero, List.drop_succ_cons, List.drop_zero]
     go_big_quiet_want
     refine quiet_load_row 36 _ rfl (w.heap.size + 1) rfl 36 (arr 16 (d16 X)) (0, 0) _ HG.out Tryz.underlying36 rfl (info36 _) ?_
     go_simp
     go_big_quiet_on
     go_big_quiet_step ((exact keep_of (order_any _)))
     go_big_quiet_step ((exact keep_of (rminus_any (d16 X) oF _ (d16_dig _ 16) oF_dig)))
     refine wpQuiet_nil ?_
     intro t2
     obtain ⟨R1, R2, O⟩ := KK.out
     replace R1 := R1.keep t2.keep
     replace R2 := R2.keep t2.keep
     replace O := O.trans (t2.keep.mono O.size)
     clear KK HG hne
     rw [HM.out]
     generalize t2.w = W11 at *
     have RR := hide (R2.setAll (d16 (X - Lm)))
     have R1' := hide (R1.setOther (k := w.heap.size + 1) (by omega) 0 (arr 16 (d16 (X - Lm))).toList)
     have O' := hide (below_setCells (g := w.heap.size + 1) (by omega) (arr 16 (d16 (X - Lm))).toList 0 O)
     clear R1 O
     go_wp2_with (refine wpList_store_mid rfl 36 _ _ rfl (w.heap.size + 1) 0 (arr 16 (d16 (X - Lm))) rfl rfl ?tm1 (info36 _) (arr_one _ _) ?_)
     case tm1 => rw [arr_size]; exact R2.there
     go_roundw
     case rel => exact ⟨p, by omega, ⟨_, rfl, rfl⟩, R1'.out, ⟨X - Lm, HE.out, by omega, by have := HX.out; omega, RR.out⟩, O'.out⟩
     case measure => simp [intOf]
   ·have e : x = (p : Int) := by omega
    subst e
    subst hi
    have a1 : (0 : Int) ≤ (p : Int) / 8 := by omega
    have a2 : (p : Int) / 8 < (s.size : Int) := by omega
    have a3 : (p : Int) % 8 = 2 := by omega
    have a4 : p / 8 < s.size := by omega
    have a5 := bt_at s (p / 8) a4
    have a6 := bt_bd s (p / 8)
    have a7 : p % 8 = 2 := by omega
    have eb : bits BinOp.and IntKind.u8 (bt s (p / 8) / 4) 1 = bt s (p / 8) / 4 % 2 := and1u (by omega) (by omega)
    have ew : IntKind.u64.wrap (bt s (p / 8) / 4 % 2) = bt s (p / 8) / 4 % 2 := wrap64u ⟨by omega, by omega⟩
    have hbit : bit s p = bt s (p / 8) / 4 % 2 := by unfold bit; rw [a7]; rfl
    have HB := hide hbit
    have hb0 : 0 ≤ bt s (p / 8) / 4 % 2 := by omega
    have hb1 : bt s (p / 8) / 4 % 2 ≤ 1 := by omega
    have HV := hide (ov_next s n N hpn HB.out hN)
    have HH := hide (And.intro hN0 (And.intro hN1 (And.intro hb0 hb1)))
    clear n1 n2 hm hp hx hbit hN hN0 hN1 hb0 hb1
    have gl := R2.lt
    go_wp2_with fail
    have hne := KW.some wr
    have hg : ∀ w', (∃ s : KW wr, w' = s.w) → w'.heap[w.heap.size + 1]? = some (.cells (arr 16 (d16 N)) 36 (0, 0)) := by
     rintro _ ⟨s, rfl⟩
     exact R2.keep s.keep
    have HG := hide hg
    have KK := hide (And.intro R1 (And.intro R2 O))
    clear hg R1 R2 O
    refine wp_region_keep_tail 12 (by kernel_rfl) (by kernel_rfl) ?_
    simp only [List.take_succ_cons, List.take_zero, List.drop_succ_cons, List.drop_zero]
    go_big_quiet_want
    refine quiet_load_row 36 _ rfl (w.heap.size + 1) rfl 36 (arr 16 (d16 N)) (0, 0) _ HG.out Tryz.underlying36 rfl (info36 _) ?_
    go_simp
    go_big_quiet_on
    go_big_quiet_step (fail)
    go_big_quiet_step (fail)
    go_big_quiet_step (fail)
    go_big_quiet_step (fail)
    go_big_quiet_step (fail)
    go_big_quiet_step (fail)
    go_big_quiet_step (fail)
    go_big_quiet_step (fail)
    go_big_quiet_step (fail)
    go_big_quiet_step (fail)
    go_big_quiet_step ((exact keep_of (twice_any N _ _ ⟨HH.out.1, HH.out.2.1⟩ HH.out.2.2.1 HH.out.2.2.2)))
    refine wpQuiet_nil ?_
    intro t
    obtain ⟨R1, R2, O⟩ := KK.out
    replace R1 := R1.keep t.keep
    replace R2 := R2.keep t.keep
    replace O := O.trans (t.keep.mono O.size)
    clear KK HG hne eb ew
    generalize t.w = W8 at *
    have hX0 : 0 ≤ 2 * N + bt s (p / 8) / 4 % 2 := by have := HH.out; omega
    have hX1 : 2 * N + bt s (p / 8) / 4 % 2 < 2 * Lm := by have := HH.out; omega
    generalize 2 * N + bt s (p / 8) / 4 % 2 = X at *
    have RR := hide (R2.setAll (d16 X))
    have R1' := hide (R1.setOther (k := w.heap.size + 1) (by omega) 0 (arr 16 (d16 X)).toList)
    have O' := hide (below_setCells (g := w.heap.size + 1) (by omega) (arr 16 (d16 X)).toList 0 O)
    have HX := hide (And.intro hX0 hX1)
    clear R1 O hX0 hX1 HH
    go_wp2_with (refine wpList_store_mid rfl 36 _ _ rfl (w.heap.size + 1) 0 (arr 16 (d16 X)) rfl rfl ?th2 (info36 _) (arr_one _ _) ?_)
    case th2 => rw [arr_size]; exact R2.there
    try rw [show ∀ (a : Act) (v : Value), a.put none v = a from fun _ _ => rfl]
    have R1 := R1'.out
    replace R2 := RR.out
    have O := O'.out
    clear R1' RR O'
    generalize W8.setCells (w.heap.size + 1) 0 (arr 16 (d16 X)).toList = W9 at *
    have hL := L16
    have hSX : S (d16 X) 16 = X := dSL HX.out.1 (by have := HX.out; omega)
    have HSX := hide hSX
    clear hSX hL
    have hne := KW.some W9
    have hg : ∀ w', (∃ s : KW W9, w' = s.w) → w'.heap[w.heap.size + 1]? = some (.cells (arr 16 (d16 X)) 36 (0, 0)) := by
     rintro _ ⟨s, rfl⟩
     exact R2.keep s.keep
    have HG := hide hg
    have KK := hide (And.intro R1 (And.intro R2 O))
    clear hg R1 R2 O
    refine wp_region_keep (by kernel_rfl) (by kernel_rfl) ?_
    go_big_quiet_want
    refine quiet_load_row 36 _ rfl (w.heap.size + 1) rfl 36 (arr 16 (d16 X)) (0, 0) _ HG.out Tryz.underlying36 rfl (info36 _) ?_
    go_simp
    go_big_quiet_on
    go_big_quiet_step ((exact keep_of (order_any _)))
    go_big_quiet_step ((exact keep_of (less_any (d16 X) oF _ (d16_dig _ 16) oF_dig)))
    rw [HSX.out, oF_S]
    by_cases hlt2 : X < Lm
    ·rw [decide_eq_true hlt2]
     go_big_quiet_step (fail)
     refine wpQuiet_nil ?_
     intro t
     obtain ⟨R1, R2, O⟩ := KK.out
     replace R1 := R1.keep t.keep
     replace R2 := R2.keep t.keep
     replace O := O.trans (t.keep.mono O.size)
     clear KK HG hne
     generalize t.w = W10 at *
     have HE := hide (HV.out.1 HX.out.1 hlt2)
     go_wp2
     go_roundw
     case rel => exact ⟨p, by omega, ⟨_, rfl, rfl⟩, R1, ⟨X, HE.out, HX.out.1, hlt2, R2⟩, O⟩
     case measure => simp [intOf]
    ·rw [decide_eq_false hlt2]
     go_big_quiet_step (fail)
     refine wpQuiet_nil ?_
     intro t
     obtain ⟨R1, R2, O⟩ := KK.out
     replace R1 := R1.keep t.keep
     replace R2 := R2.keep t.keep
     replace O := O.trans (t.keep.mono O.size)
     clear KK HG hne
     generalize t.w = W10 at *
     have HE := hide (HV.out.2 HX.out.2 (by omega))
     have hm2 : arr 16 (minusF (d16 X) oF) = arr 16 (d16 (X - Lm)) := sub_val hlt2 HX.out.2
     have HM := hide hm2
     clear hm2
     go_wp2_with fail
     have hne := KW.some W10
     have hg : ∀ w', (∃ s : KW W10, w' = s.w) → w'.heap[w.heap.size + 1]? = some (.cells (arr 16 (d16 X)) 36 (0, 0)) := by
      rintro _ ⟨s, rfl⟩
      exact R2.keep s.keep
     have HG := hide hg
     have KK := hide (And.intro R1 (And.intro R2 O))
     clear hg R1 R2 O
     refine wp_region_keep_tail 3 (by kernel_rfl) (by kernel_rfl) ?_
     simp only [List.take_succ_cons, List.take_zero, List.drop_succ_cons, List.drop_zero]
     go_big_quiet_want
     refine quiet_load_row 36 _ rfl (w.heap.size + 1) rfl 36 (arr 16 (d16 X)) (0, 0) _ HG.out Tryz.underlying36 rfl (info36 _) ?_
     go_simp
     go_big_quiet_on
     go_big_quiet_step ((exact keep_of (order_any _)))
     go_big_quiet_step ((exact keep_of (rminus_any (d16 X) oF _ (d16_dig _ 16) oF_dig)))
     refine wpQuiet_nil ?_
     intro t2
     obtain ⟨R1, R2, O⟩ := KK.out
     replace R1 := R1.keep t2.keep
     replace R2 := R2.keep t2.keep
     replace O := O.trans (t2.keep.mono O.size)
     clear KK HG hne
     rw [HM.out]
     generalize t2.w = W11 at *
     have RR := hide (R2.setAll (d16 (X - Lm)))
     have R1' := hide (R1.setOther (k := w.heap.size + 1) (by omega) 0 (arr 16 (d16 (X - Lm))).toList)
     have O' := hide (below_setCells (g := w.heap.size + 1) (by omega) (arr 16 (d16 (X - Lm))).toList 0 O)
     clear R1 O
     go_wp2_with (refine wpList_store_mid rfl 36 _ _ rfl (w.heap.size + 1) 0 (arr 16 (d16 (X - Lm))) rfl rfl ?tm2 (info36 _) (arr_one _ _) ?_)
     case tm2 => rw [arr_size]; exact R2.there
     go_roundw
     case rel => exact ⟨p, by omega, ⟨_, rfl, rfl⟩, R1'.out, ⟨X - Lm, HE.out, by omega, by have := HX.out; omega, RR.out⟩, O'.out⟩
     case measure => simp [intOf]
   ·have e : x = (p : Int) := by omega
    subst e
    subst hi
    have a1 : (0 : Int) ≤ (p : Int) / 8 := by omega
    have a2 : (p : Int) / 8 < (s.size : Int) := by omega
    have a3 : (p : Int) % 8 = 3 := by omega
    have a4 : p / 8 < s.size := by omega
    have a5 := bt_at s (p / 8) a4
    have a6 := bt_bd s (p / 8)
    have a7 : p % 8 = 3 := by omega
    have eb : bits BinOp.and IntKind.u8 (bt s (p / 8) / 8) 1 = bt s (p / 8) / 8 % 2 := and1u (by omega) (by omega)
    have ew : IntKind.u64.wrap (bt s (p / 8) / 8 % 2) = bt s (p / 8) / 8 % 2 := wrap64u ⟨by omega, by omega⟩
    have hbit : bit s p = bt s (p / 8) / 8 % 2 := by unfold bit; rw [a7]; rfl
    have HB := hide hbit
    have hb0 : 0 ≤ bt s (p / 8) / 8 % 2 := by omega
    have hb1 : bt s (p / 8) / 8 % 2 ≤ 1 := by omega
    have HV := hide (ov_next s n N hpn HB.out hN)
    have HH := hide (And.intro hN0 (And.intro hN1 (And.intro hb0 hb1)))
    clear n1 n2 hm hp hx hbit hN hN0 hN1 hb0 hb1
    have gl := R2.lt
    go_wp2_with fail
    have hne := KW.some wr
    have hg : ∀ w', (∃ s : KW wr, w' = s.w) → w'.heap[w.heap.size + 1]? = some (.cells (arr 16 (d16 N)) 36 (0, 0)) := by
     rintro _ ⟨s, rfl⟩
     exact R2.keep s.keep
    have HG := hide hg
    have KK := hide (And.intro R1 (And.intro R2 O))
    clear hg R1 R2 O
    refine wp_region_keep_tail 12 (by kernel_rfl) (by kernel_rfl) ?_
    simp only [List.take_succ_cons, List.take_zero, List.drop_succ_cons, List.drop_zero]
    go_big_quiet_want
    refine quiet_load_row 36 _ rfl (w.heap.size + 1) rfl 36 (arr 16 (d16 N)) (0, 0) _ HG.out Tryz.underlying36 rfl (info36 _) ?_
    go_simp
    go_big_quiet_on
    go_big_quiet_step (fail)
    go_big_quiet_step (fail)
    go_big_quiet_step (fail)
    go_big_quiet_step (fail)
    go_big_quiet_step (fail)
    go_big_quiet_step (fail)
    go_big_quiet_step (fail)
    go_big_quiet_step (fail)
    go_big_quiet_step (fail)
    go_big_quiet_step (fail)
    go_big_quiet_step ((exact keep_of (twice_any N _ _ ⟨HH.out.1, HH.out.2.1⟩ HH.out.2.2.1 HH.out.2.2.2)))
    refine wpQuiet_nil ?_
    intro t
    obtain ⟨R1, R2, O⟩ := KK.out
    replace R1 := R1.keep t.keep
    replace R2 := R2.keep t.keep
    replace O := O.trans (t.keep.mono O.size)
    clear KK HG hne eb ew
    generalize t.w = W8 at *
    have hX0 : 0 ≤ 2 * N + bt s (p / 8) / 8 % 2 := by have := HH.out; omega
    have hX1 : 2 * N + bt s (p / 8) / 8 % 2 < 2 * Lm := by have := HH.out; omega
    generalize 2 * N + bt s (p / 8) / 8 % 2 = X at *
    have RR := hide (R2.setAll (d16 X))
    have R1' := hide (R1.setOther (k := w.heap.size + 1) (by omega) 0 (arr 16 (d16 X)).toList)
    have O' := hide (below_setCells (g := w.heap.size + 1) (by omega) (arr 16 (d16 X)).toList 0 O)
    have HX := hide (And.intro hX0 hX1)
    clear R1 O hX0 hX1 HH
    go_wp2_with (refine wpList_store_mid rfl 36 _ _ rfl (w.heap.size + 1) 0 (arr 16 (d16 X)) rfl rfl ?th3 (info36 _) (arr_one _ _) ?_)
    case th3 => rw [arr_size]; exact R2.there
    try rw [show ∀ (a : Act) (v : Value), a.put none v = a from fun _ _ => rfl]
    have R1 := R1'.out
    replace R2 := RR.out
    have O := O'.out
    clear R1' RR O'
    generalize W8.setCells (w.heap.size + 1) 0 (arr 16 (d16 X)).toList = W9 at *
    have hL := L16
    have hSX : S (d16 X) 16 = X := dSL HX.out.1 (by have := HX.out; omega)
    have HSX := hide hSX
    clear hSX hL
    have hne := KW.some W9
    have hg : ∀ w', (∃ s : KW W9, w' = s.w) → w'.heap[w.heap.size + 1]? = some (.cells (arr 16 (d16 X)) 36 (0, 0)) := by
     rintro _ ⟨s, rfl⟩
     exact R2.keep s.keep
    have HG := hide hg
    have KK := hide (And.intro R1 (And.intro R2 O))
    clear hg R1 R2 O
    refine wp_region_keep (by kernel_rfl) (by kernel_rfl) ?_
    go_big_quiet_want
    refine quiet_load_row 36 _ rfl (w.heap.size + 1) rfl 36 (arr 16 (d16 X)) (0, 0) _ HG.out Tryz.underlying36 rfl (info36 _) ?_
    go_simp
    go_big_quiet_on
    go_big_quiet_step ((exact keep_of (order_any _)))
    go_big_quiet_step ((exact keep_of (less_any (d16 X) oF _ (d16_dig _ 16) oF_dig)))
    rw [HSX.out, oF_S]
    by_cases hlt2 : X < Lm
    ·rw [decide_eq_true hlt2]
     go_big_quiet_step (fail)
     refine wpQuiet_nil ?_
     intro t
     obtain ⟨R1, R2, O⟩ := KK.out
     replace R1 := R1.keep t.keep
     replace R2 := R2.keep t.keep
     replace O := O.trans (t.keep.mono O.size)
     clear KK HG hne
     generalize t.w = W10 at *
     have HE := hide (HV.out.1 HX.out.1 hlt2)
     go_wp2
     go_roundw
     case rel => exact ⟨p, by omega, ⟨_, rfl, rfl⟩, R1, ⟨X, HE.out, HX.out.1, hlt2, R2⟩, O⟩
     case measure => simp [intOf]
    ·rw [decide_eq_false hlt2]
     go_big_quiet_step (fail)
     refine wpQuiet_nil ?_
     intro t
     obtain ⟨R1, R2, O⟩ := KK.out
     replace R1 := R1.keep t.keep
     replace R2 := R2.keep t.keep
     replace O := O.trans (t.keep.mono O.size)
     clear KK HG hne
     generalize t.w = W10 at *
     have HE := hide (HV.out.2 HX.out.2 (by omega))
     have hm2 : arr 16 (minusF (d16 X) oF) = arr 16 (d16 (X - Lm)) := sub_val hlt2 HX.out.2
     have HM := hide hm2
     clear hm2
     go_wp2_with fail
     have hne := KW.some W10
     have hg : ∀ w', (∃ s : KW W10, w' = s.w) → w'.heap[w.heap.size + 1]? = some (.cells (arr 16 (d16 X)) 36 (0, 0)) := by
      rintro _ ⟨s, rfl⟩
      exact R2.keep s.keep
     have HG := hide hg
     have KK := hide (And.intro R1 (And.intro R2 O))
     clear hg R1 R2 O
     refine wp_region_keep_tail 3 (by kernel_rfl) (by kernel_rfl) ?_
     simp only [List.take_succ_cons, List.take_zero, List.drop_succ_cons, List.drop_zero]
     go_big_quiet_want
     refine quiet_load_row 36 _ rfl (w.heap.size + 1) rfl 36 (arr 16 (d16 X)) (0, 0) _ HG.out Tryz.underlying36 rfl (info36 _) ?_
     go_simp
     go_big_quiet_on
     go_big_quiet_step ((exact keep_of (order_any _)))
     go_big_quiet_step ((exact keep_of (rminus_any (d16 X) oF _ (d16_dig _ 16) oF_dig)))
     refine wpQuiet_nil ?_
     intro t2
     obtain ⟨R1, R2, O⟩ := KK.out
     replace R1 := R1.keep t2.keep
     replace R2 := R2.keep t2.keep
     replace O := O.trans (t2.keep.mono O.size)
     clear KK HG hne
     rw [HM.out]
     generalize t2.w = W11 at *
     have RR := hide (R2.setAll (d16 (X - Lm)))
     have R1' := hide (R1.setOther (k := w.heap.size + 1) (by omega) 0 (arr 16 (d16 (X - Lm))).toList)
     have O' := hide (below_setCells (g := w.heap.size + 1) (by omega) (arr 16 (d16 (X - Lm))).toList 0 O)
     clear R1 O
     go_wp2_with (refine wpList_store_mid rfl 36 _ _ rfl (w.heap.size + 1) 0 (arr 16 (d16 (X - Lm))) rfl rfl ?tm3 (info36 _) (arr_one _ _) ?_)
     case tm3 => rw [arr_size]; exact R2.there
     go_roundw
     case rel => exact ⟨p, by omega, ⟨_, rfl, rfl⟩, R1'.out, ⟨X - Lm, HE.out, by omega, by have := HX.out; omega, RR.out⟩, O'.out⟩
     case measure => simp [intOf]
   ·have e : x = (p : Int) := by omega
    subst e
    subst hi
    have a1 : (0 : Int) ≤ (p : Int) / 8 := by omega
    have a2 : (p : Int) / 8 < (s.size : Int) := by omega
    have a3 : (p : Int) % 8 = 4 := by omega
    have a4 : p / 8 < s.size := by omega
    have a5 := bt_at s (p / 8) a4
    have a6 := bt_bd s (p / 8)
    have a7 : p % 8 = 4 := by omega
    have eb : bits BinOp.and IntKind.u8 (bt s (p / 8) / 16) 1 = bt s (p / 8) / 16 % 2 := and1u (by omega) (by omega)
    have ew : IntKind.u64.wrap (bt s (p / 8) / 16 % 2) = bt s (p / 8) / 16 % 2 := wrap64u ⟨by omega, by omega⟩
    have hbit : bit s p = bt s (p / 8) / 16 % 2 := by unfold bit; rw [a7]; rfl
    have HB := hide hbit
    have hb0 : 0 ≤ bt s (p / 8) / 16 % 2 := by omega
    have hb1 : bt s (p / 8) / 16 % 2 ≤ 1 := by omega
    have HV := hide (ov_next s n N hpn HB.out hN)
    have HH := hide (And.intro hN0 (And.intro hN1 (And.intro hb0 hb1)))
    clear n1 n2 hm hp hx hbit hN hN0 hN1 hb0 hb1
    have gl := R2.lt
    go_wp2_with fail
    have hne := KW.some wr
    have hg : ∀ w', (∃ s : KW wr, w' = s.w) → w'.heap[w.heap.size + 1]? = some (.cells (arr 16 (d16 N)) 36 (0, 0)) := by
     rintro _ ⟨s, rfl⟩
     exact R2.keep s.keep
    have HG := hide hg
    have KK := hide (And.intro R1 (And.intro R2 O))
    clear hg R1 R2 O
    refine wp_region_keep_tail 12 (by kernel_rfl) (by kernel_rfl) ?_
    simp only [List.take_succ_cons, List.take_zero, List.drop_succ_cons, List.drop_zero]
    go_big_quiet_want
    refine quiet_load_row 36 _ rfl (w.heap.size + 1) rfl 36 (arr 16 (d16 N)) (0, 0) _ HG.out Tryz.underlying36 rfl (info36 _) ?_
    go_simp
    go_big_quiet_on
    go_big_quiet_step (fail)
    go_big_quiet_step (fail)
    go_big_quiet_step (fail)
    go_big_quiet_step (fail)
    go_big_quiet_step (fail)
    go_big_quiet_step (fail)
    go_big_quiet_step (fail)
    go_big_quiet_step (fail)
    go_big_quiet_step (fail)
    go_big_quiet_step (fail)
    go_big_quiet_step ((exact keep_of (twice_any N _ _ ⟨HH.out.1, HH.out.2.1⟩ HH.out.2.2.1 HH.out.2.2.2)))
    refine wpQuiet_nil ?_
    intro t
    obtain ⟨R1, R2, O⟩ := KK.out
    replace R1 := R1.keep t.keep
    replace R2 := R2.keep t.keep
    replace O := O.trans (t.keep.mono O.size)
    clear KK HG hne eb ew
    generalize t.w = W8 at *
    have hX0 : 0 ≤ 2 * N + bt s (p / 8) / 16 % 2 := by have := HH.out; omega
    have hX1 : 2 * N + bt s (p / 8) / 16 % 2 < 2 * Lm := by have := HH.out; omega
    generalize 2 * N + bt s (p / 8) / 16 % 2 = X at *
    have RR := hide (R2.setAll (d16 X))
    have R1' := hide (R1.setOther (k := w.heap.size + 1) (by omega) 0 (arr 16 (d16 X)).toList)
    have O' := hide (below_setCells (g := w.heap.size + 1) (by omega) (arr 16 (d16 X)).toList 0 O)
    have HX := hide (And.intro hX0 hX1)
    clear R1 O hX0 hX1 HH
    go_wp2_with (refine wpList_store_mid rfl 36 _ _ rfl (w.heap.size + 1) 0 (arr 16 (d16 X)) rfl rfl ?th4 (info36 _) (arr_one _ _) ?_)
    case th4 => rw [arr_size]; exact R2.there
    try rw [show ∀ (a : Act) (v : Value), a.put none v = a from fun _ _ => rfl]
    have R1 := R1'.out
    replace R2 := RR.out
    have O := O'.out
    clear R1' RR O'
    generalize W8.setCells (w.heap.size + 1) 0 (arr 16 (d16 X)).toList = W9 at *
    have hL := L16
    have hSX : S (d16 X) 16 = X := dSL HX.out.1 (by have := HX.out; omega)
    have HSX := hide hSX
    clear hSX hL
    have hne := KW.some W9
    have hg : ∀ w', (∃ s : KW W9, w' = s.w) → w'.heap[w.heap.size + 1]? = some (.cells (arr 16 (d16 X)) 36 (0, 0)) := by
     rintro _ ⟨s, rfl⟩
     exact R2.keep s.keep
    have HG := hide hg
    have KK := hide (And.intro R1 (And.intro R2 O))
    clear hg R1 R2 O
    refine wp_region_keep (by kernel_rfl) (by kernel_rfl) ?_
    go_big_quiet_want
    refine quiet_load_row 36 _ rfl (w.heap.size + 1) rfl 36 (arr 16 (d16 X)) (0, 0) _ HG.out Tryz.underlying36 rfl (info36 _) ?_
    go_simp
    go_big_quiet_on
    go_big_quiet_step ((exact keep_of (order_any _)))
    go_big_quiet_step ((exact keep_of (less_any (d16 X) oF _ (d16_dig _ 16) oF_dig)))
    rw [HSX.out, oF_S]
    by_cases hlt2 : X < Lm
    ·rw [decide_eq_true hlt2]
     go_big_quiet_step (fail)
     refine wpQuiet_nil ?_
     intro t
     obtain ⟨R1, R2, O⟩ := KK.out
     replace R1 := R1.keep t.keep
     replace R2 := R2.keep t.keep
     replace O := O.trans (t.keep.mono O.size)
     clear KK HG hne
     generalize t.w = W10 at *
     have HE := hide (HV.out.1 HX.out.1 hlt2)
     go_wp2
     go_roundw
     case rel => exact ⟨p, by omega, ⟨_, rfl, rfl⟩, R1, ⟨X, HE.out, HX.out.1, hlt2, R2⟩, O⟩
     case measure => simp [intOf]
    ·rw [decide_eq_false hlt2]
     go_big_quiet_step (fail)
     refine wpQuiet_nil ?_
     intro t
     obtain ⟨R1, R2, O⟩ := KK.out
     replace R1 := R1.keep t.keep
     replace R2 := R2.keep t.keep
     replace O := O.trans (t.keep.mono O.size)
     clear KK HG hne
     generalize t.w = W10 at *
     have HE := hide (HV.out.2 HX.out.2 (by omega))
     have hm2 : arr 16 (minusF (d16 X) oF) = arr 16 (d16 (X - Lm)) := sub_val hlt2 HX.out.2
     have HM := hide hm2
     clear hm2
     go_wp2_with fail
     have hne := KW.some W10
     have hg : ∀ w', (∃ s : KW W10, w' = s.w) → w'.heap[w.heap.size + 1]? = some (.cells (arr 16 (d16 X)) 36 (0, 0)) := by
      rintro _ ⟨s, rfl⟩
      exact R2.keep s.keep
     have HG := hide hg
     have KK := hide (And.intro R1 (And.intro R2 O))
     clear hg R1 R2 O
     refine wp_region_keep_tail 3 (by kernel_rfl) (by kernel_rfl) ?_
     simp only [List.take_succ_cons, List.take_zero, List.drop_succ_cons, List.drop_zero]
     go_big_quiet_want
     refine quiet_load_row 36 _ rfl (w.heap.size + 1) rfl 36 (arr 16 (d16 X)) (0, 0) _ HG.out Tryz.underlying36 rfl (info36 _) ?_
     go_simp
     go_big_quiet_on
     go_big_quiet_step ((exact keep_of (order_any _)))
     go_big_quiet_step ((exact keep_of (rminus_any (d16 X) oF _ (d16_dig _ 16) oF_dig)))
     refine wpQuiet_nil ?_
     intro t2
     obtain ⟨R1, R2, O⟩ := KK.out
     replace R1 := R1.keep t2.keep
     replace R2 := R2.keep t2.keep
     replace O := O.trans (t2.keep.mono O.size)
     clear KK HG hne
     rw [HM.out]
     generalize t2.w = W11 at *
     have RR := hide (R2.setAll (d16 (X - Lm)))
     have R1' := hide (R1.setOther (k := w.heap.size + 1) (by omega) 0 (arr 16 (d16 (X - Lm))).toList)
     have O' := hide (below_setCells (g := w.heap.size + 1) (by omega) (arr 16 (d16 (X - Lm))).toList 0 O)
     clear R1 O
     go_wp2_with (refine wpList_store_mid rfl 36 _ _ rfl (w.heap.size + 1) 0 (arr 16 (d16 (X - Lm))) rfl rfl ?tm4 (info36 _) (arr_one _ _) ?_)
     case tm4 => rw [arr_size]; exact R2.there
     go_roundw
     case rel => exact ⟨p, by omega, ⟨_, rfl, rfl⟩, R1'.out, ⟨X - Lm, HE.out, by omega, by have := HX.out; omega, RR.out⟩, O'.out⟩
     case measure => simp [intOf]
   ·have e : x = (p : Int) := by omega
    subst e
    subst hi
    have a1 : (0 : Int) ≤ (p : Int) / 8 := by omega
    have a2 : (p : Int) / 8 < (s.size : Int) := by omega
    have a3 : (p : Int) % 8 = 5 := by omega
    have a4 : p / 8 < s.size := by omega
    have a5 := bt_at s (p / 8) a4
    have a6 := bt_bd s (p / 8)
    have a7 : p % 8 = 5 := by omega
    have eb : bits BinOp.and IntKind.u8 (bt s (p / 8) / 32) 1 = bt s (p / 8) / 32 % 2 := and1u (by omega) (by omega)
    have ew : IntKind.u64.wrap (bt s (p / 8) / 32 % 2) = bt s (p / 8) / 32 % 2 := wrap64u ⟨by omega, by omega⟩
    have hbit : bit s p = bt s (p / 8) / 32 % 2 := by unfold bit; rw [a7]; rfl
    have HB := hide hbit
    have hb0 : 0 ≤ bt s (p / 8) / 32 % 2 := by omega
    have hb1 : bt s (p / 8) / 32 % 2 ≤ 1 := by omega
    have HV := hide (ov_next s n N hpn HB.out hN)
    have HH := hide (And.intro hN0 (And.intro hN1 (And.intro hb0 hb1)))
    clear n1 n2 hm hp hx hbit hN hN0 hN1 hb0 hb1
    have gl := R2.lt
    go_wp2_with fail
    have hne := KW.some wr
    have hg : ∀ w', (∃ s : KW wr, w' = s.w) → w'.heap[w.heap.size + 1]? = some (.cells (arr 16 (d16 N)) 36 (0, 0)) := by
     rintro _ ⟨s, rfl⟩
     exact R2.keep s.keep
    have HG := hide hg
    have KK := hide (And.intro R1 (And.intro R2 O))
    clear hg R1 R2 O
    refine wp_region_keep_tail 12 (by kernel_rfl) (by kernel_rfl) ?_
    simp only [List.take_succ_cons, List.take_zero, List.drop_succ_cons, List.drop_zero]
    go_big_quiet_want
    refine quiet_load_row 36 _ rfl (w.heap.size + 1) rfl 36 (arr 16 (d16 N)) (0, 0) _ HG.out Tryz.underlying36 rfl (info36 _) ?_
    go_simp
    go_big_quiet_on
    go_big_quiet_step (fail)
    go_big_quiet_step (fail)
    go_big_quiet_step (fail)
    go_big_quiet_step (fail)
    go_big_quiet_step (fail)
    go_big_quiet_step (fail)
    go_big_quiet_step (fail)
    go_big_quiet_step (fail)
    go_big_quiet_step (fail)
    go_big_quiet_step (fail)
    go_big_quiet_step ((exact keep_of (twice_any N _ _ ⟨HH.out.1, HH.out.2.1⟩ HH.out.2.2.1 HH.out.2.2.2)))
    refine wpQuiet_nil ?_
    intro t
    obtain ⟨R1, R2, O⟩ := KK.out
    replace R1 := R1.keep t.keep
    replace R2 := R2.keep t.keep
    replace O := O.trans (t.keep.mono O.size)
    clear KK HG hne eb ew
    generalize t.w = W8 at *
    have hX0 : 0 ≤ 2 * N + bt s (p / 8) / 32 % 2 := by have := HH.out; omega
    have hX1 : 2 * N + bt s (p / 8) / 32 % 2 < 2 * Lm := by have := HH.out; omega
    generalize 2 * N + bt s (p / 8) / 32 % 2 = X at *
    have RR := hide (R2.setAll (d16 X))
    have R1' := hide (R1.setOther (k := w.heap.size + 1) (by omega) 0 (arr 16 (d16 X)).toList)
    have O' := hide (below_setCells (g := w.heap.size + 1) (by omega) (arr 16 (d16 X)).toList 0 O)
    have HX := hide (And.intro hX0 hX1)
    clear R1 O hX0 hX1 HH
    go_wp2_with (refine wpList_store_mid rfl 36 _ _ rfl (w.heap.size + 1) 0 (arr 16 (d16 X)) rfl rfl ?th5 (info36 _) (arr_one _ _) ?_)
    case th5 => rw [arr_size]; exact R2.there
    try rw [show ∀ (a : Act) (v : Value), a.put none v = a from fun _ _ => rfl]
    have R1 := R1'.out
    replace R2 := RR.out
    have O := O'.out
    clear R1' RR O'
    generalize W8.setCells (w.heap.size + 1) 0 (arr 16 (d16 X)).toList = W9 at *
    have hL := L16
    have hSX : S (d16 X) 16 = X := dSL HX.out.1 (by have := HX.out; omega)
    have HSX := hide hSX
    clear hSX hL
    have hne := KW.some W9
    have hg : ∀ w', (∃ s : KW W9, w' = s.w) → w'.heap[w.heap.size + 1]? = some (.cells (arr 16 (d16 X)) 36 (0, 0)) := by
     rintro _ ⟨s, rfl⟩
     exact R2.keep s.keep
    have HG := hide hg
    have KK := hide (And.intro R1 (And.intro R2 O))
    clear hg R1 R2 O
    refine wp_region_keep (by kernel_rfl) (by kernel_rfl) ?_
    go_big_quiet_want
    refine quiet_load_row 36 _ rfl (w.heap.size + 1) rfl 36 (arr 16 (d16 X)) (0, 0) _ HG.out Tryz.underlying36 rfl (info36 _) ?_
    go_simp
    go_big_quiet_on
    go_big_quiet_step ((exact keep_of (order_any _)))
    go_big_quiet_step ((exact keep_of (less_any (d16 X) oF _ (d16_dig _ 16) oF_dig)))
    rw [HSX.out, oF_S]
    by_cases hlt2 : X < Lm
    ·rw [decide_eq_true hlt2]
     go_big_quiet_step (fail)
     refine wpQuiet_nil ?_
     intro t
     obtain ⟨R1, R2, O⟩ := KK.out
     replace R1 := R1.keep t.keep
     replace R2 := R2.keep t.keep
     replace O := O.trans (t.keep.mono O.size)
     clear KK HG hne
     generalize t.w = W10 at *
     have HE := hide (HV.out.1 HX.out.1 hlt2)
     go_wp2
     go_roundw
     case rel => exact ⟨p, by omega, ⟨_, rfl, rfl⟩, R1, ⟨X, HE.out, HX.out.1, hlt2, R2⟩, O⟩
     case measure => simp [intOf]
    ·rw [decide_eq_false hlt2]
     go_big_quiet_step (fail)
     refine wpQuiet_nil ?_
     intro t
     obtain ⟨R1, R2, O⟩ := KK.out
     replace R1 := R1.keep t.keep
     replace R2 := R2.keep t.keep
     replace O := O.trans (t.keep.mono O.size)
     clear KK HG hne
     generalize t.w = W10 at *
     have HE := hide (HV.out.2 HX.out.2 (by omega))
     have hm2 : arr 16 (minusF (d16 X) oF) = arr 16 (d16 (X - Lm)) := sub_val hlt2 HX.out.2
     have HM := hide hm2
     clear hm2
     go_wp2_with fail
     have hne := KW.some W10
     have hg : ∀ w', (∃ s : KW W10, w' = s.w) → w'.heap[w.heap.size + 1]? = some (.cells (arr 16 (d16 X)) 36 (0, 0)) := by
      rintro _ ⟨s, rfl⟩
      exact R2.keep s.keep
     have HG := hide hg
     have KK := hide (And.intro R1 (And.intro R2 O))
     clear hg R1 R2 O
     refine wp_region_keep_tail 3 (by kernel_rfl) (by kernel_rfl) ?_
     simp only [List.take_succ_cons, List.take_zero, List.drop_succ_cons, List.drop_zero]
     go_big_quiet_want
     refine quiet_load_row 36 _ rfl (w.heap.size + 1) rfl 36 (arr 16 (d16 X)) (0, 0) _ HG.out Tryz.underlying36 rfl (info36 _) ?_
     go_simp
     go_big_quiet_on
     go_big_quiet_step ((exact keep_of (order_any _)))
     go_big_quiet_step ((exact keep_of (rminus_any (d16 X) oF _ (d16_dig _ 16) oF_dig)))
     refine wpQuiet_nil ?_
     intro t2
     obtain ⟨R1, R2, O⟩ := KK.out
     replace R1 := R1.keep t2.keep
     replace R2 := R2.keep t2.keep
     replace O := O.trans (t2.keep.mono O.size)
     clear KK HG hne
     rw [HM.out]
     generalize t2.w = W11 at *
     have RR := hide (R2.setAll (d16 (X - Lm)))
     have R1' := hide (R1.setOther (k := w.heap.size + 1) (by omega) 0 (arr 16 (d16 (X - Lm))).toList)
     have O' := hide (below_setCells (g := w.heap.size + 1) (by omega) (arr 16 (d16 (X - Lm))).toList 0 O)
     clear R1 O
     go_wp2_with (refine wpList_store_mid rfl 36 _ _ rfl (w.heap.size + 1) 0 (arr 16 (d16 (X - Lm))) rfl rfl ?tm5 (info36 _) (arr_one _ _) ?_)
     case tm5 => rw [arr_size]; exact R2.there
     go_roundw
     case rel => exact ⟨p, by omega, ⟨_, rfl, rfl⟩, R1'.out, ⟨X - Lm, HE.out, by omega, by have := HX.out; omega, RR.out⟩, O'.out⟩
     case measure => simp [intOf]
   ·have e : x = (p : Int) := by omega
    subst e
    subst hi
    have a1 : (0 : Int) ≤ (p : Int) / 8 := by omega
    have a2 : (p : Int) / 8 < (s.size : Int) := by omega
    have a3 : (p : Int) % 8 = 6 := by omega
    have a4 : p / 8 < s.size := by omega
    have a5 := bt_at s (p / 8) a4
    have a6 := bt_bd s (p / 8)
    have a7 : p % 8 = 6 := by omega
    have eb : bits BinOp.and IntKind.u8 (bt s (p / 8) / 64) 1 = bt s (p / 8) / 64 % 2 := and1u (by omega) (by omega)
    have ew : IntKind.u64.wrap (bt s (p / 8) / 64 % 2) = bt s (p / 8) / 64 % 2 := wrap64u ⟨by omega, by omega⟩
    have hbit : bit s p = bt s (p / 8) / 64 % 2 := by unfold bit; rw [a7]; rfl
    have HB := hide hbit
    have hb0 : 0 ≤ bt s (p / 8) / 64 % 2 := by omega
    have hb1 : bt s (p / 8) / 64 % 2 ≤ 1 := by omega
    have HV := hide (ov_next s n N hpn HB.out hN)
    have HH := hide (And.intro hN0 (And.intro hN1 (And.intro hb0 hb1)))
    clear n1 n2 hm hp hx hbit hN hN0 hN1 hb0 hb1
    have gl := R2.lt
    go_wp2_with fail
    have hne := KW.some wr
    have hg : ∀ w', (∃ s : KW wr, w' = s.w) → w'.heap[w.heap.size + 1]? = some (.cells (arr 16 (d16 N)) 36 (0, 0)) := by
     rintro _ ⟨s, rfl⟩
     exact R2.keep s.keep
    have HG := hide hg
    have KK := hide (And.intro R1 (And.intro R2 O))
    clear hg R1 R2 O
    refine wp_region_keep_tail 12 (by kernel_rfl) (by kernel_rfl) ?_
    simp only [List.take_succ_cons, List.take_zero, List.drop_succ_cons, List.drop_zero]
    go_big_quiet_want
    refine quiet_load_row 36 _ rfl (w.heap.size + 1) rfl 36 (arr 16 (d16 N)) (0, 0) _ HG.out Tryz.underlying36 rfl (info36 _) ?_
    go_simp
    go_big_quiet_on
    go_big_quiet_step (fail)
    go_big_quiet_step (fail)
    go_big_quiet_step (fail)
    go_big_quiet_step (fail)
    go_big_quiet_step (fail)
    go_big_quiet_step (fail)
    go_big_quiet_step (fail)
    go_big_quiet_step (fail)
    go_big_quiet_step (fail)
    go_big_quiet_step (fail)
    go_big_quiet_step ((exact keep_of (twice_any N _ _ ⟨HH.out.1, HH.out.2.1⟩ HH.out.2.2.1 HH.out.2.2.2)))
    refine wpQuiet_nil ?_
    intro t
    obtain ⟨R1, R2, O⟩ := KK.out
    replace R1 := R1.keep t.keep
    replace R2 := R2.keep t.keep
    replace O := O.trans (t.keep.mono O.size)
    clear KK HG hne eb ew
    generalize t.w = W8 at *
    have hX0 : 0 ≤ 2 * N + bt s (p / 8) / 64 % 2 := by have := HH.out; omega
    have hX1 : 2 * N + bt s (p / 8) / 64 % 2 < 2 * Lm := by have := HH.out; omega
    generalize 2 * N + bt s (p / 8) / 64 % 2 = X at *
    have RR := hide (R2.setAll (d16 X))
    have R1' := hide (R1.setOther (k := w.heap.size + 1) (by omega) 0 (arr 16 (d16 X)).toList)
    have O' := hide (below_setCells (g := w.heap.size + 1) (by omega) (arr 16 (d16 X)).toList 0 O)
    have HX := hide (And.intro hX0 hX1)
    clear R1 O hX0 hX1 HH
    go_wp2_with (refine wpList_store_mid rfl 36 _ _ rfl (w.heap.size + 1) 0 (arr 16 (d16 X)) rfl rfl ?th6 (info36 _) (arr_one _ _) ?_)
    case th6 => rw [arr_size]; exact R2.there
    try rw [show ∀ (a : Act) (v : Value), a.put none v = a from fun _ _ => rfl]
    have R1 := R1'.out
    replace R2 := RR.out
    have O := O'.out
    clear R1' RR O'
    generalize W8.setCells (w.heap.size + 1) 0 (arr 16 (d16 X)).toList = W9 at *
    have hL := L16
    have hSX : S (d16 X) 16 = X := dSL HX.out.1 (by have := HX.out; omega)
    have HSX := hide hSX
    clear hSX hL
    have hne := KW.some W9
    have hg : ∀ w', (∃ s : KW W9, w' = s.w) → w'.heap[w.heap.size + 1]? = some (.cells (arr 16 (d16 X)) 36 (0, 0)) := by
     rintro _ ⟨s, rfl⟩
     exact R2.keep s.keep
    have HG := hide hg
    have KK := hide (And.intro R1 (And.intro R2 O))
    clear hg R1 R2 O
    refine wp_region_keep (by kernel_rfl) (by kernel_rfl) ?_
    go_big_quiet_want
    refine quiet_load_row 36 _ rfl (w.heap.size + 1) rfl 36 (arr 16 (d16 X)) (0, 0) _ HG.out Tryz.underlying36 rfl (info36 _) ?_
    go_simp
    go_big_quiet_on
    go_big_quiet_step ((exact keep_of (order_any _)))
    go_big_quiet_step ((exact keep_of (less_any (d16 X) oF _ (d16_dig _ 16) oF_dig)))
    rw [HSX.out, oF_S]
    by_cases hlt2 : X < Lm
    ·rw [decide_eq_true hlt2]
     go_big_quiet_step (fail)
     refine wpQuiet_nil ?_
     intro t
     obtain ⟨R1, R2, O⟩ := KK.out
     replace R1 := R1.keep t.keep
     replace R2 := R2.keep t.keep
     replace O := O.trans (t.keep.mono O.size)
     clear KK HG hne
     generalize t.w = W10 at *
     have HE := hide (HV.out.1 HX.out.1 hlt2)
     go_wp2
     go_roundw
     case rel => exact ⟨p, by omega, ⟨_, rfl, rfl⟩, R1, ⟨X, HE.out, HX.out.1, hlt2, R2⟩, O⟩
     case measure => simp [intOf]
    ·rw [decide_eq_false hlt2]
     go_big_quiet_step (fail)
     refine wpQuiet_nil ?_
     intro t
     obtain ⟨R1, R2, O⟩ := KK.out
     replace R1 := R1.keep t.keep
     replace R2 := R2.keep t.keep
     replace O := O.trans (t.keep.mono O.size)
     clear KK HG hne
     generalize t.w = W10 at *
     have HE := hide (HV.out.2 HX.out.2 (by omega))
     have hm2 : arr 16 (minusF (d16 X) oF) = arr 16 (d16 (X - Lm)) := sub_val hlt2 HX.out.2
     have HM := hide hm2
     clear hm2
     go_wp2_with fail
     have hne := KW.some W10
     have hg : ∀ w', (∃ s : KW W10, w' = s.w) → w'.heap[w.heap.size + 1]? = some (.cells (arr 16 (d16 X)) 36 (0, 0)) := by
      rintro _ ⟨s, rfl⟩
      exact R2.keep s.keep
     have HG := hide hg
     have KK := hide (And.intro R1 (And.intro R2 O))
     clear hg R1 R2 O
     refine wp_region_keep_tail 3 (by kernel_rfl) (by kernel_rfl) ?_
     simp only [List.take_succ_cons, List.take_zero, List.drop_succ_cons, List.drop_zero]
     go_big_quiet_want
     refine quiet_load_row 36 _ rfl (w.heap.size + 1) rfl 36 (arr 16 (d16 X)) (0, 0) _ HG.out Tryz.underlying36 rfl (info36 _) ?_
     go_simp
     go_big_quiet_on
     go_big_quiet_step ((exact keep_of (order_any _)))
     go_big_quiet_step ((exact keep_of (rminus_any (d16 X) oF _ (d16_dig _ 16) oF_dig)))
     refine wpQuiet_nil ?_
     intro t2
     obtain ⟨R1, R2, O⟩ := KK.out
     replace R1 := R1.keep t2.keep
     replace R2 := R2.keep t2.keep
     replace O := O.trans (t2.keep.mono O.size)
     clear KK HG hne
     rw [HM.out]
     generalize t2.w = W11 at *
     have RR := hide (R2.setAll (d16 (X - Lm)))
     have R1' := hide (R1.setOther (k := w.heap.size + 1) (by omega) 0 (arr 16 (d16 (X - Lm))).toList)
     have O' := hide (below_setCells (g := w.heap.size + 1) (by omega) (arr 16 (d16 (X - Lm))).toList 0 O)
     clear R1 O
     go_wp2_with (refine wpList_store_mid rfl 36 _ _ rfl (w.heap.size + 1) 0 (arr 16 (d16 (X - Lm))) rfl rfl ?tm6 (info36 _) (arr_one _ _) ?_)
     case tm6 => rw [arr_size]; exact R2.there
     go_roundw
     case rel => exact ⟨p, by omega, ⟨_, rfl, rfl⟩, R1'.out, ⟨X - Lm, HE.out, by omega, by have := HX.out; omega, RR.out⟩, O'.out⟩
     case measure => simp [intOf]
   ·have e : x = (p : Int) := by omega
    subst e
    subst hi
    have a1 : (0 : Int) ≤ (p : Int) / 8 := by omega
    have a2 : (p : Int) / 8 < (s.size : Int) := by omega
    have a3 : (p : Int) % 8 = 7 := by omega
    have a4 : p / 8 < s.size := by omega
    have a5 := bt_at s (p / 8) a4
    have a6 := bt_bd s (p / 8)
    have a7 : p % 8 = 7 := by omega
    have eb : bits BinOp.and IntKind.u8 (bt s (p / 8) / 128) 1 = bt s (p / 8) / 128 % 2 := and1u (by omega) (by omega)
    have ew : IntKind.u64.wrap (bt s (p / 8) / 128 % 2) = bt s (p / 8) / 128 % 2 := wrap64u ⟨by omega, by omega⟩
    have hbit : bit s p = bt s (p / 8) / 128 % 2 := by unfold bit; rw [a7]; rfl
    have HB := hide hbit
    have hb0 : 0 ≤ bt s (p / 8) / 128 % 2 := by omega
    have hb1 : bt s (p / 8) / 128 % 2 ≤ 1 := by omega
    have HV := hide (ov_next s n N hpn HB.out hN)
    have HH := hide (And.intro hN0 (And.intro hN1 (And.intro hb0 hb1)))
    clear n1 n2 hm hp hx hbit hN hN0 hN1 hb0 hb1
    have gl := R2.lt
    go_wp2_with fail
    have hne := KW.some wr
    have hg : ∀ w', (∃ s : KW wr, w' = s.w) → w'.heap[w.heap.size + 1]? = some (.cells (arr 16 (d16 N)) 36 (0, 0)) := by
     rintro _ ⟨s, rfl⟩
     exact R2.keep s.keep
    have HG := hide hg
    have KK := hide (And.intro R1 (And.intro R2 O))
    clear hg R1 R2 O
    refine wp_region_keep_tail 12 (by kernel_rfl) (by kernel_rfl) ?_
    simp only [List.take_succ_cons, List.take_zero, List.drop_succ_cons, List.drop_zero]
    go_big_quiet_want
    refine quiet_load_row 36 _ rfl (w.heap.size + 1) rfl 36 (arr 16 (d16 N)) (0, 0) _ HG.out Tryz.underlying36 rfl (info36 _) ?_
    go_simp
    go_big_quiet_on
    go_big_quiet_step (fail)
    go_big_quiet_step (fail)
    go_big_quiet_step (fail)
    go_big_quiet_step (fail)
    go_big_quiet_step (fail)
    go_big_quiet_step (fail)
    go_big_quiet_step (fail)
    go_big_quiet_step (fail)
    go_big_quiet_step (fail)
    go_big_quiet_step (fail)
    go_big_quiet_step ((exact keep_of (twice_any N _ _ ⟨HH.out.1, HH.out.2.1⟩ HH.out.2.2.1 HH.out.2.2.2)))
    refine wpQuiet_nil ?_
    intro t
    obtain ⟨R1, R2, O⟩ := KK.out
    replace R1 := R1.keep t.keep
    replace R2 := R2.keep t.keep
    replace O := O.trans (t.keep.mono O.size)
    clear KK HG hne eb ew
    generalize t.w = W8 at *
    have hX0 : 0 ≤ 2 * N + bt s (p / 8) / 128 % 2 := by have := HH.out; omega
    have hX1 : 2 * N + bt s (p / 8) / 128 % 2 < 2 * Lm := by have := HH.out; omega
    generalize 2 * N + bt s (p / 8) / 128 % 2 = X at *
    have RR := hide (R2.setAll (d16 X))
    have R1' := hide (R1.setOther (k := w.heap.size + 1) (by omega) 0 (arr 16 (d16 X)).toList)
    have O' := hide (below_setCells (g := w.heap.size + 1) (by omega) (arr 16 (d16 X)).toList 0 O)
    have HX := hide (And.intro hX0 hX1)
    clear R1 O hX0 hX1 HH
    go_wp2_with (refine wpList_store_mid rfl 36 _ _ rfl (w.heap.size + 1) 0 (arr 16 (d16 X)) rfl rfl ?th7 (info36 _) (arr_one _ _) ?_)
    case th7 => rw [arr_size]; exact R2.there
    try rw [show ∀ (a : Act) (v : Value), a.put none v = a from fun _ _ => rfl]
    have R1 := R1'.out
    replace R2 := RR.out
    have O := O'.out
    clear R1' RR O'
    generalize W8.setCells (w.heap.size + 1) 0 (arr 16 (d16 X)).toList = W9 at *
    have hL := L16
    have hSX : S (d16 X) 16 = X := dSL HX.out.1 (by have := HX.out; omega)
    have HSX := hide hSX
    clear hSX hL
    have hne := KW.some W9
    have hg : ∀ w', (∃ s : KW W9, w' = s.w) → w'.heap[w.heap.size + 1]? = some (.cells (arr 16 (d16 X)) 36 (0, 0)) := by
     rintro _ ⟨s, rfl⟩
     exact R2.keep s.keep
    have HG := hide hg
    have KK := hide (And.intro R1 (And.intro R2 O))
    clear hg R1 R2 O
    refine wp_region_keep (by kernel_rfl) (by kernel_rfl) ?_
    go_big_quiet_want
    refine quiet_load_row 36 _ rfl (w.heap.size + 1) rfl 36 (arr 16 (d16 X)) (0, 0) _ HG.out Tryz.underlying36 rfl (info36 _) ?_
    go_simp
    go_big_quiet_on
    go_big_quiet_step ((exact keep_of (order_any _)))
    go_big_quiet_step ((exact keep_of (less_any (d16 X) oF _ (d16_dig _ 16) oF_dig)))
    rw [HSX.out, oF_S]
    by_cases hlt2 : X < Lm
    ·rw [decide_eq_true hlt2]
     go_big_quiet_step (fail)
     refine wpQuiet_nil ?_
     intro t
     obtain ⟨R1, R2, O⟩ := KK.out
     replace R1 := R1.keep t.keep
     replace R2 := R2.keep t.keep
     replace O := O.trans (t.keep.mono O.size)
     clear KK HG hne
     generalize t.w = W10 at *
     have HE := hide (HV.out.1 HX.out.1 hlt2)
     go_wp2
     go_roundw
     case rel => exact ⟨p, by omega, ⟨_, rfl, rfl⟩, R1, ⟨X, HE.out, HX.out.1, hlt2, R2⟩, O⟩
     case measure => simp [intOf]
    ·rw [decide_eq_false hlt2]
     go_big_quiet_step (fail)
     refine wpQuiet_nil ?_
     intro t
     obtain ⟨R1, R2, O⟩ := KK.out
     replace R1 := R1.keep t.keep
     replace R2 := R2.keep t.keep
     replace O := O.trans (t.keep.mono O.size)
     clear KK HG hne
     generalize t.w = W10 at *
     have HE := hide (HV.out.2 HX.out.2 (by omega))
     have hm2 : arr 16 (minusF (d16 X) oF) = arr 16 (d16 (X - Lm)) := sub_val hlt2 HX.out.2
     have HM := hide hm2
     clear hm2
     go_wp2_with fail
     have hne := KW.some W10
     have hg : ∀ w', (∃ s : KW W10, w' = s.w) → w'.heap[w.heap.size + 1]? = some (.cells (arr 16 (d16 X)) 36 (0, 0)) := by
      rintro _ ⟨s, rfl⟩
      exact R2.keep s.keep
     have HG := hide hg
     have KK := hide (And.intro R1 (And.intro R2 O))
     clear hg R1 R2 O
     refine wp_region_keep_tail 3 (by kernel_rfl) (by kernel_rfl) ?_
     simp only [List.take_succ_cons, List.take_zero, List.drop_succ_cons, List.drop_zero]
     go_big_quiet_want
     refine quiet_load_row 36 _ rfl (w.heap.size + 1) rfl 36 (arr 16 (d16 X)) (0, 0) _ HG.out Tryz.underlying36 rfl (info36 _) ?_
     go_simp
     go_big_quiet_on
     go_big_quiet_step ((exact keep_of (order_any _)))
     go_big_quiet_step ((exact keep_of (rminus_any (d16 X) oF _ (d16_dig _ 16) oF_dig)))
     refine wpQuiet_nil ?_
     intro t2
     obtain ⟨R1, R2, O⟩ := KK.out
     replace R1 := R1.keep t2.keep
     replace R2 := R2.keep t2.keep
     replace O := O.trans (t2.keep.mono O.size)
     clear KK HG hne
     rw [HM.out]
     generalize t2.w = W11 at *
     have RR := hide (R2.setAll (d16 (X - Lm)))
     have R1' := hide (R1.setOther (k := w.heap.size + 1) (by omega) 0 (arr 16 (d16 (X - Lm))).toList)
     have O' := hide (below_setCells (g := w.heap.size + 1) (by omega) (arr 16 (d16 (X - Lm))).toList 0 O)
     clear R1 O
     go_wp2_with (refine wpList_store_mid rfl 36 _ _ rfl (w.heap.size + 1) 0 (arr 16 (d16 (X - Lm))) rfl rfl ?tm7 (info36 _) (arr_one _ _) ?_)
     case tm7 => rw [arr_size]; exact R2.there
     go_roundw
     case rel => exact ⟨p, by omega, ⟨_, rfl, rfl⟩, R1'.out, ⟨X - Lm, HE.out, by omega, by have := HX.out; omega, RR.out⟩, O'.out⟩
     case measure => simp [intOf]
def bv (s : ByteArray) : Nat → Int
 | 0 => 0
 | k + 1 => bv s k + bt s k * 256 ^ k
theorem p8 (n : Nat) : (0 : Int) < 256 ^ n := Int.pow_pos (by decide)
theorem p8s (n : Nat) : (256 : Int) ^ (n + 1) = 256 * 256 ^ n := by rw [Int.pow_succ, Int.mul_comm]
theorem bv_bd (s : ByteArray) : ∀ k, 0 ≤ bv s k ∧ bv s k < 256 ^ k
 | 0 => by simp [bv]
 | k + 1 => by
  have ih := bv_bd s k
  have hb := bt_bd s k
  have hp := p8 k
  have h1 : bt s k * 256 ^ k ≤ 255 * 256 ^ k := Int.mul_le_mul_of_nonneg_right (by omega) (by omega)
  have h2 : 0 ≤ bt s k * 256 ^ k := Int.mul_nonneg hb.1 (by omega)
  rw [p8s]
  simp only [bv]
  omega
theorem bv_split (s : ByteArray) (j : Nat) : ∀ k, ∃ q : Int, bv s (j + 1 + k) = bv s j + 256 ^ j * (bt s j + 256 * q)
 | 0 => ⟨0, by show bv s j + bt s j * 256 ^ j = _; rw [Int.mul_zero, Int.add_zero, Int.mul_comm]⟩
 | k + 1 => by
  obtain ⟨q, hq⟩ := bv_split s j k
  refine ⟨q + bt s (j + 1 + k) * 256 ^ k, ?_⟩
  show bv s (j + 1 + k) + bt s (j + 1 + k) * 256 ^ (j + 1 + k) = _
  rw [hq, Int.pow_add, Int.pow_succ, Int.mul_add 256 q, ← Int.add_assoc (bt s j), Int.mul_add (256 ^ j) (bt s j + 256 * q), ← Int.add_assoc]
  congr 1
  generalize (256 : Int) ^ j = X
  generalize (256 : Int) ^ k = Y
  rw [Int.mul_comm (bt s (j + 1 + k)), Int.mul_assoc X 256 Y, Int.mul_assoc X, Int.mul_assoc 256 Y, Int.mul_comm Y]
theorem bv_at (s : ByteArray) {j m : Nat} (h : j < m) : bv s m / 256 ^ j % 256 = bt s j := by
 obtain ⟨q, hq⟩ := bv_split s j (m - (j + 1))
 rw [show j + 1 + (m - (j + 1)) = m by omega] at hq
 have hp := p8 j
 have hb := bv_bd s j
 have ht := bt_bd s j
 rw [hq, Int.add_mul_ediv_left _ _ (by omega), Int.ediv_eq_zero_of_lt hb.1 hb.2]
 omega
theorem bit_at (s : ByteArray) {p m : Nat} (h : p < 8 * m) : bit s p = bv s m / 2 ^ p % 2 := by
 have e : (2 : Int) ^ p = 256 ^ (p / 8) * 2 ^ (p % 8) := by
  have e1 : (256 : Int) ^ (p / 8) = 2 ^ (8 * (p / 8)) := by rw [Int.pow_mul]; rfl
  rw [e1, ← Int.pow_add]
  congr 1
  omega
 have hj : bv s m / 256 ^ (p / 8) % 256 = bt s (p / 8) := bv_at s (by omega)
 have hp := p8 (p / 8)
 unfold bit
 rw [e, ← Int.ediv_ediv_of_nonneg (by omega), ← hj]
 generalize bv s m / 256 ^ (p / 8) = A
 have h8 : p % 8 < 8 := by omega
 generalize p % 8 = r at *
 rcases (show r = 0 ∨ r = 1 ∨ r = 2 ∨ r = 3 ∨ r = 4 ∨ r = 5 ∨ r = 6 ∨ r = 7 by omega) with rfl | rfl | rfl | rfl | rfl | rfl | rfl | rfl
 ·simp only [Int.pow_zero]; omega
 ·simp only [show (2 : Int) ^ 1 = 2 from by decide]; omega
 ·simp only [show (2 : Int) ^ 2 = 4 from by decide]; omega
 ·simp only [show (2 : Int) ^ 3 = 8 from by decide]; omega
 ·simp only [show (2 : Int) ^ 4 = 16 from by decide]; omega
 ·simp only [show (2 : Int) ^ 5 = 32 from by decide]; omega
 ·simp only [show (2 : Int) ^ 6 = 64 from by decide]; omega
 ·simp only [show (2 : Int) ^ 7 = 128 from by decide]; omega
theorem ov_val (s : ByteArray) (m : Nat) : ∀ k, k ≤ 8 * m → ov s (8 * m) k = bv s m / 2 ^ (8 * m - k) % Lm
 | 0, _ => by
  have hb := bv_bd s m
  have e : (256 : Int) ^ m = 2 ^ (8 * m) := by rw [Int.pow_mul]; rfl
  rw [Nat.sub_zero, ← e, Int.ediv_eq_zero_of_lt hb.1 hb.2]
  rfl
 | k + 1, h => by
  have ih := ov_val s m k (by omega)
  show (2 * ov s (8 * m) k + bit s (8 * m - 1 - k)) % Lm = _
  have hb := bit_at s (p := 8 * m - 1 - k) (m := m) (by omega)
  have e2 : 8 * m - k = (8 * m - 1 - k) + 1 := by omega
  have e3 : 8 * m - (k + 1) = 8 * m - 1 - k := by omega
  have hp : (0 : Int) < 2 ^ (8 * m - 1 - k) := Int.pow_pos (by decide)
  rw [ih, hb, e2, e3, Int.pow_succ, ← Int.ediv_ediv_of_nonneg (by omega)]
  generalize bv s m / 2 ^ (8 * m - 1 - k) = A
  rw [Int.add_emod, Int.mul_emod, Int.emod_emod_of_dvd _ (Int.dvd_refl _), ← Int.mul_emod, ← Int.add_emod]
  congr 1
  omega
theorem ov_all (s : ByteArray) (m n : Nat) (hn : n = 8 * m) : ov s n n = bv s m % Lm := by
 subst hn
 rw [ov_val s m _ (Nat.le_refl _), Nat.sub_self, Int.pow_zero, Int.ediv_one]
theorem bt_out (s : ByteArray) (i : Nat) (h : s.size ≤ i) : bt s i = 0 := by
 unfold bt
 have h' : s.data.size ≤ i := h
 rw [Array.getElem?_eq_none h']
 rfl
theorem bv_out (s : ByteArray) : ∀ k, bv s (s.size + k) = bv s s.size
 | 0 => rfl
 | k + 1 => by
  show bv s (s.size + k) + bt s (s.size + k) * 256 ^ (s.size + k) = _
  rw [bt_out s _ (by omega), bv_out s k]
  omega
theorem bv_64 (s : ByteArray) (h : s.size ≤ 64) : bv s 64 = bv s s.size := by
 have := bv_out s (64 - s.size)
 rwa [show s.size + (64 - s.size) = 64 by omega] at this
theorem sw_bv (s : ByteArray) (j : Nat) : ∀ r, bv s (8 * j + r) = bv s (8 * j) + 256 ^ (8 * j) * sw s j r
 | 0 => by simp [sw]
 | r + 1 => by
  have ih := sw_bv s j r
  show bv s (8 * j + r) + bt s (8 * j + r) * 256 ^ (8 * j + r) = bv s (8 * j) + 256 ^ (8 * j) * (sw s j r + bt s (8 * j + r) * 256 ^ r)
  rw [ih, Int.pow_add, Int.mul_add, ← Int.add_assoc]
  congr 1
  rw [Int.mul_left_comm]
theorem Q_bv (s : ByteArray) : ∀ n, Q (fun j => sw s j 8) n = bv s (8 * n)
 | 0 => rfl
 | n + 1 => by
  have ih := Q_bv s n
  have e := sw_bv s n 8
  have e2 : (256 : Int) ^ (8 * n) = 18446744073709551616 ^ n := by rw [Int.pow_mul]; rfl
  rw [show 8 * (n + 1) = 8 * n + 8 by omega, e, e2]
  simp only [Q]
  rw [ih, Int.mul_comm]
theorem sw_wds (s : ByteArray) (n : Nat) : Wds (fun j => sw s j 8) n := fun j _ => by
 have := sw_bd s j 8
 have e : (256 : Int) ^ 8 = 18446744073709551616 := by decide
 rw [e] at this
 exact this
theorem val_bv (s : ByteArray) : val s = bv s 32 := by
 have e := Q_bv s 4
 rw [Q4] at e
 rw [show 32 = 8 * 4 from rfl, ← e]
 unfold val
 omega
def le (N : Int) (n : Nat) : List Int := (List.range n).map fun i => N / 256 ^ i % 256
theorem le_get (N : Int) {n i : Nat} (h : i < n) : (le N n)[i]? = some (N / 256 ^ i % 256) := by simp [le, h]
theorem bs_size (l : List Int) : (bs l).size = l.length := by simp [bs, ByteArray.size]
theorem bt_bs (l : List Int) (i : Nat) (x : Int) (hl : l[i]? = some x) (h0 : 0 ≤ x) (h1 : x < 256) : bt (bs l) i = x := by
 unfold bt bs
 simp only [List.getElem?_toArray, List.getElem?_map, hl, Option.map_some, Option.getD_some]
 simp only [UInt8.toNat_ofNat']
 omega
theorem bt_le (N : Int) {n i : Nat} (h : i < n) : bt (bs (le N n)) i = N / 256 ^ i % 256 := bt_bs _ _ _ (le_get N h) (by omega) (by omega)
theorem bv_le (N : Int) (h0 : 0 ≤ N) (n : Nat) : ∀ k, k ≤ n → bv (bs (le N n)) k = N % 256 ^ k
 | 0, _ => by simp [bv, Int.emod_one]
 | k + 1, h => by
  have ih := bv_le N h0 n k (by omega)
  have hp := p8 k
  show bv (bs (le N n)) k + bt (bs (le N n)) k * 256 ^ k = _
  rw [ih, bt_le N (by omega), Int.pow_succ]
  have e1 := Int.emod_add_mul_ediv N (256 ^ k)
  rw [Int.emod_def N (256 ^ k * 256), ← Int.ediv_ediv_of_nonneg (by omega)]
  generalize N / 256 ^ k = A at *
  have e3 : A % 256 * 256 ^ k = A * 256 ^ k - 256 * (A / 256) * 256 ^ k := by
   rw [← Int.sub_mul]
   congr 1
   omega
  rw [e3]
  generalize A / 256 = B at *
  generalize (256 : Int) ^ k = X at *
  rw [Int.mul_comm A X, show 256 * B * X = X * 256 * B by rw [Int.mul_comm (256 * B) X, ← Int.mul_assoc]]
  omega
end Go.Proofs.YtmhfmhmpoobmlaaGreatDoor.Ord
