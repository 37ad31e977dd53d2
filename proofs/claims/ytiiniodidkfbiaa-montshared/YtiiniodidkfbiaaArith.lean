/- Plain arithmetic for the numbers modulo 2^255 - 19: five parts of 51 bits, congruence, masks and shifts as remainders and quotients. -/
import Derived.WalkKit
import Derived.Laws.BitsAllLaws
import Derived.Laws.Bits64
namespace Go.Proofs.Ytiiniodidkfbiaa
open Go.RowKit

theorem hide {p : Prop} (h : p) : Hid p := h

def Pm : Int := 57896044618658097711785492504343953926634992332820282019728792003956564819949

/-- Congruence modulo the prime. -/
def Cg (x y : Int) : Prop := ∃ k : Int, x = y + k * Pm

theorem Cg.refl (x : Int) : Cg x x := ⟨0, by omega⟩
theorem Cg.of_eq {x y : Int} (h : x = y) : Cg x y := ⟨0, by omega⟩
theorem Cg.symm {x y : Int} (h : Cg x y) : Cg y x := by
  obtain ⟨k, h⟩ := h
  exact ⟨-k, by rw [h, Int.neg_mul]; omega⟩
theorem Cg.trans {x y z : Int} (h : Cg x y) (g : Cg y z) : Cg x z := by
  obtain ⟨k, h⟩ := h
  obtain ⟨l, g⟩ := g
  exact ⟨k + l, by rw [h, g, Int.add_mul]; omega⟩
theorem Cg.add {x y u v : Int} (h : Cg x y) (g : Cg u v) : Cg (x + u) (y + v) := by
  obtain ⟨k, h⟩ := h
  obtain ⟨l, g⟩ := g
  exact ⟨k + l, by rw [h, g, Int.add_mul]; omega⟩
theorem Cg.neg {x y : Int} (h : Cg x y) : Cg (-x) (-y) := by
  obtain ⟨k, h⟩ := h
  exact ⟨-k, by rw [h, Int.neg_mul]; omega⟩
theorem Cg.sub {x y u v : Int} (h : Cg x y) (g : Cg u v) : Cg (x - u) (y - v) := by
  have := h.add g.neg
  simpa [Int.sub_eq_add_neg] using this
theorem Cg.mul {x y u v : Int} (h : Cg x y) (g : Cg u v) : Cg (x * u) (y * v) := by
  obtain ⟨k, h⟩ := h
  obtain ⟨l, g⟩ := g
  refine ⟨y * l + k * v + k * l * Pm, ?_⟩
  rw [h, g]
  simp only [Int.add_mul, Int.mul_add, Int.mul_assoc, Int.mul_comm Pm, Int.mul_left_comm]
  have e : k * (Pm * v) = k * (v * Pm) := by rw [Int.mul_comm Pm]
  omega
theorem Cg.emod {x y : Int} (h : Cg x y) : x % Pm = y % Pm := by
  obtain ⟨k, h⟩ := h
  rw [h, Int.add_mul_emod_self_right]
theorem Cg.of_emod {x y : Int} (h : x % Pm = y % Pm) : Cg x y := by
  refine ⟨x / Pm - y / Pm, ?_⟩
  have a := Int.mul_ediv_add_emod x Pm
  have b := Int.mul_ediv_add_emod y Pm
  rw [Int.sub_mul, Int.mul_comm (x / Pm), Int.mul_comm (y / Pm)]
  omega
theorem cg_emod (x : Int) : Cg (x % Pm) x := Cg.of_emod (Int.emod_emod_of_dvd x (Int.dvd_refl _))
theorem Cg.add_P (x k : Int) : Cg (x + k * Pm) x := ⟨k, rfl⟩
theorem Cg.sub_P (x k : Int) : Cg (x - k * Pm) x := ⟨-k, by rw [Int.neg_mul]; omega⟩

/-- The five parts of a number. -/
structure E5 where
  a : Int
  b : Int
  c : Int
  d : Int
  e : Int

abbrev E5.v (x : E5) : Value := .agg #[.int .u64 x.a, .int .u64 x.b, .int .u64 x.c, .int .u64 x.d, .int .u64 x.e]

def E5.n (x : E5) : Int := x.a + 2251799813685248 * x.b + 5070602400912917605986812821504 * x.c + 11417981541647679048466287755595961091061972992 * x.d + 25711008708143844408671393477458601640355247900524685364822016 * x.e

structure E5.Ok (x : E5) : Prop where
  a0 : 0 ≤ x.a
  a1 : x.a ≤ 2251799813840876
  b0 : 0 ≤ x.b
  b1 : x.b ≤ 2251799813840876
  c0 : 0 ≤ x.c
  c1 : x.c ≤ 2251799813840876
  d0 : 0 ≤ x.d
  d1 : x.d ≤ 2251799813840876
  e0 : 0 ≤ x.e
  e1 : x.e ≤ 2251799813840876

/-- A word of 64 bits. -/
def W64 (x : Int) : Prop := 0 ≤ x ∧ x < 18446744073709551616

theorem and51 {x : Int} (h : W64 x) : bits .and .u64 x 2251799813685247 = x % 2251799813685248 := by
  rw [u64_and x _ h.1 h.2 (by decide) (by decide)]
  have e : (2251799813685247 : Int).toNat = 2251799813685247 := by decide
  rw [e, nat_mask51]
  have := h.1
  omega

theorem wrap64u {x : Int} (h : W64 x) : IntKind.u64.wrap x = x := by
  rw [IntKind.wrap_u64]
  exact Int.emod_eq_of_lt h.1 h.2

theorem or_join (i K : Nat) (hK : K = 2 ^ i) {x y : Int} (hx : W64 x) (hy : W64 y) (h1 : x % (K : Int) = 0) (h2 : y < (K : Int)) : bits .or .u64 x y = x + y := by
  rw [u64_or x y hx.1 hx.2 hy.1 hy.2]
  have a := hx.1
  have b := hy.1
  obtain ⟨X, rfl⟩ := Int.eq_ofNat_of_zero_le a
  obtain ⟨Y, rfl⟩ := Int.eq_ofNat_of_zero_le b
  simp only [Int.toNat_natCast]
  have h1' : X % K = 0 := by exact_mod_cast h1
  have h2' : Y < K := by omega
  subst hK
  rw [nat_join i X Y h1' h2']
  omega

theorem or_join' (i K : Nat) (hK : K = 2 ^ i) {x y : Int} (hx : W64 x) (hy : W64 y) (h1 : y % (K : Int) = 0) (h2 : x < (K : Int)) : bits .or .u64 x y = x + y := by
  rw [u64_or x y hx.1 hx.2 hy.1 hy.2]
  have a := hx.1
  have b := hy.1
  obtain ⟨X, rfl⟩ := Int.eq_ofNat_of_zero_le a
  obtain ⟨Y, rfl⟩ := Int.eq_ofNat_of_zero_le b
  simp only [Int.toNat_natCast]
  have h1' : Y % K = 0 := by exact_mod_cast h1
  have h2' : X < K := by omega
  subst hK
  rw [Nat.or_comm, nat_join i Y X h1' h2']
  omega

/-- What is left when each part's bits above the 51st go on to the next one, the last one's by 19 to the first. -/
def car (a b c d e : Int) : E5 := ⟨a % 2251799813685248 + e / 2251799813685248 * 19, b % 2251799813685248 + a / 2251799813685248, c % 2251799813685248 + b / 2251799813685248, d % 2251799813685248 + c / 2251799813685248, e % 2251799813685248 + d / 2251799813685248⟩

theorem car_ok {a b c d e : Int} (ha : W64 a) (hb : W64 b) (hc : W64 c) (hd : W64 d) (he : W64 e) : (car a b c d e).Ok := by
  unfold W64 at *
  constructor <;> simp only [car] <;> omega

theorem car_n (a b c d e : Int) : Cg (car a b c d e).n (E5.n ⟨a, b, c, d, e⟩) := by
  refine ⟨- (e / 2251799813685248), ?_⟩
  simp only [car, E5.n, Pm]
  omega

def addF (x y : E5) : E5 := car (x.a + y.a) (x.b + y.b) (x.c + y.c) (x.d + y.d) (x.e + y.e)
def subF (x y : E5) : E5 := car (x.a + 4503599627370458 - y.a) (x.b + 4503599627370494 - y.b) (x.c + 4503599627370494 - y.c) (x.d + 4503599627370494 - y.d) (x.e + 4503599627370494 - y.e)
def zeroE : E5 := ⟨0, 0, 0, 0, 0⟩
def negF (x : E5) : E5 := subF zeroE x
def smallF (n : Int) : E5 := car n 0 0 0 0

theorem zeroE_ok : zeroE.Ok := ⟨by decide, by decide, by decide, by decide, by decide, by decide, by decide, by decide, by decide, by decide⟩
theorem zeroE_n : zeroE.n = 0 := by decide

theorem addF_ok {x y : E5} (hx : x.Ok) (hy : y.Ok) : (addF x y).Ok := by
  obtain ⟨a0, a1, b0, b1, c0, c1, d0, d1, e0, e1⟩ := hx
  obtain ⟨f0, f1, g0, g1, h0, h1, i0, i1, j0, j1⟩ := hy
  exact car_ok ⟨by omega, by omega⟩ ⟨by omega, by omega⟩ ⟨by omega, by omega⟩ ⟨by omega, by omega⟩ ⟨by omega, by omega⟩
theorem addF_n (x y : E5) : Cg (addF x y).n (x.n + y.n) := (car_n _ _ _ _ _).trans (Cg.of_eq (by simp only [E5.n]; omega))
theorem subF_ok {x y : E5} (hx : x.Ok) (hy : y.Ok) : (subF x y).Ok := by
  obtain ⟨a0, a1, b0, b1, c0, c1, d0, d1, e0, e1⟩ := hx
  obtain ⟨f0, f1, g0, g1, h0, h1, i0, i1, j0, j1⟩ := hy
  exact car_ok ⟨by omega, by omega⟩ ⟨by omega, by omega⟩ ⟨by omega, by omega⟩ ⟨by omega, by omega⟩ ⟨by omega, by omega⟩
theorem subF_n (x y : E5) : Cg (subF x y).n (x.n - y.n) := (car_n _ _ _ _ _).trans ⟨2, by simp only [E5.n, Pm]; omega⟩
theorem negF_ok {x : E5} (hx : x.Ok) : (negF x).Ok := subF_ok zeroE_ok hx
theorem negF_n (x : E5) : Cg (negF x).n (- x.n) := (subF_n _ _).trans (Cg.of_eq (by rw [zeroE_n]; omega))
theorem smallF_ok {n : Int} (h0 : 0 ≤ n) (h1 : n < 4294967296) : (smallF n).Ok := car_ok ⟨by omega, by omega⟩ ⟨by decide, by decide⟩ ⟨by decide, by decide⟩ ⟨by decide, by decide⟩ ⟨by decide, by decide⟩
theorem smallF_n (n : Int) : Cg (smallF n).n n := (car_n _ _ _ _ _).trans (Cg.of_eq (by simp only [E5.n]; omega))

/-- The five sums of products; those that come round from above, by 19. -/
def m0 (x y : E5) : Int := x.a * y.a + x.b * (y.e * 19) + x.c * (y.d * 19) + x.d * (y.c * 19) + x.e * (y.b * 19)
def m1 (x y : E5) : Int := x.a * y.b + x.b * y.a + x.c * (y.e * 19) + x.d * (y.d * 19) + x.e * (y.c * 19)
def m2 (x y : E5) : Int := x.a * y.c + x.b * y.b + x.c * y.a + x.d * (y.e * 19) + x.e * (y.d * 19)
def m3 (x y : E5) : Int := x.a * y.d + x.b * y.c + x.c * y.b + x.d * y.a + x.e * (y.e * 19)
def m4 (x y : E5) : Int := x.a * y.e + x.b * y.d + x.c * y.c + x.d * y.b + x.e * y.a
def mulF (x y : E5) : E5 := car (m0 x y % 2251799813685248 + m4 x y / 2251799813685248 * 19) (m1 x y % 2251799813685248 + m0 x y / 2251799813685248) (m2 x y % 2251799813685248 + m1 x y / 2251799813685248) (m3 x y % 2251799813685248 + m2 x y / 2251799813685248) (m4 x y % 2251799813685248 + m3 x y / 2251799813685248)

/-- A product of two parts is not below 0 and has a bound. -/
theorem mb {a b : Int} (a0 : 0 ≤ a) (a1 : a ≤ 2251799813840876) (b0 : 0 ≤ b) (b1 : b ≤ 42784196462976644) : 0 ≤ a * b ∧ a * b ≤ 96341445630662272367569520500144 :=
  ⟨Int.mul_nonneg a0 b0, Int.le_trans (Int.mul_le_mul a1 b1 b0 (by decide)) (by decide)⟩

structure MB (x y : E5) : Prop where
  aa : 0 ≤ x.a * y.a ∧ x.a * y.a ≤ 96341445630662272367569520500144
  ab : 0 ≤ x.a * y.b ∧ x.a * y.b ≤ 96341445630662272367569520500144
  ac : 0 ≤ x.a * y.c ∧ x.a * y.c ≤ 96341445630662272367569520500144
  ad : 0 ≤ x.a * y.d ∧ x.a * y.d ≤ 96341445630662272367569520500144
  ae : 0 ≤ x.a * y.e ∧ x.a * y.e ≤ 96341445630662272367569520500144
  ba : 0 ≤ x.b * y.a ∧ x.b * y.a ≤ 96341445630662272367569520500144
  bb : 0 ≤ x.b * y.b ∧ x.b * y.b ≤ 96341445630662272367569520500144
  bc : 0 ≤ x.b * y.c ∧ x.b * y.c ≤ 96341445630662272367569520500144
  bd : 0 ≤ x.b * y.d ∧ x.b * y.d ≤ 96341445630662272367569520500144
  be : 0 ≤ x.b * y.e ∧ x.b * y.e ≤ 96341445630662272367569520500144
  ca : 0 ≤ x.c * y.a ∧ x.c * y.a ≤ 96341445630662272367569520500144
  cb : 0 ≤ x.c * y.b ∧ x.c * y.b ≤ 96341445630662272367569520500144
  cc : 0 ≤ x.c * y.c ∧ x.c * y.c ≤ 96341445630662272367569520500144
  cd : 0 ≤ x.c * y.d ∧ x.c * y.d ≤ 96341445630662272367569520500144
  ce : 0 ≤ x.c * y.e ∧ x.c * y.e ≤ 96341445630662272367569520500144
  da : 0 ≤ x.d * y.a ∧ x.d * y.a ≤ 96341445630662272367569520500144
  db : 0 ≤ x.d * y.b ∧ x.d * y.b ≤ 96341445630662272367569520500144
  dc : 0 ≤ x.d * y.c ∧ x.d * y.c ≤ 96341445630662272367569520500144
  dd : 0 ≤ x.d * y.d ∧ x.d * y.d ≤ 96341445630662272367569520500144
  de : 0 ≤ x.d * y.e ∧ x.d * y.e ≤ 96341445630662272367569520500144
  ea : 0 ≤ x.e * y.a ∧ x.e * y.a ≤ 96341445630662272367569520500144
  eb : 0 ≤ x.e * y.b ∧ x.e * y.b ≤ 96341445630662272367569520500144
  ec : 0 ≤ x.e * y.c ∧ x.e * y.c ≤ 96341445630662272367569520500144
  ed : 0 ≤ x.e * y.d ∧ x.e * y.d ≤ 96341445630662272367569520500144
  ee : 0 ≤ x.e * y.e ∧ x.e * y.e ≤ 96341445630662272367569520500144
  bb' : 0 ≤ x.b * (y.b * 19) ∧ x.b * (y.b * 19) ≤ 96341445630662272367569520500144
  bc' : 0 ≤ x.b * (y.c * 19) ∧ x.b * (y.c * 19) ≤ 96341445630662272367569520500144
  bd' : 0 ≤ x.b * (y.d * 19) ∧ x.b * (y.d * 19) ≤ 96341445630662272367569520500144
  be' : 0 ≤ x.b * (y.e * 19) ∧ x.b * (y.e * 19) ≤ 96341445630662272367569520500144
  cb' : 0 ≤ x.c * (y.b * 19) ∧ x.c * (y.b * 19) ≤ 96341445630662272367569520500144
  cc' : 0 ≤ x.c * (y.c * 19) ∧ x.c * (y.c * 19) ≤ 96341445630662272367569520500144
  cd' : 0 ≤ x.c * (y.d * 19) ∧ x.c * (y.d * 19) ≤ 96341445630662272367569520500144
  ce' : 0 ≤ x.c * (y.e * 19) ∧ x.c * (y.e * 19) ≤ 96341445630662272367569520500144
  db' : 0 ≤ x.d * (y.b * 19) ∧ x.d * (y.b * 19) ≤ 96341445630662272367569520500144
  dc' : 0 ≤ x.d * (y.c * 19) ∧ x.d * (y.c * 19) ≤ 96341445630662272367569520500144
  dd' : 0 ≤ x.d * (y.d * 19) ∧ x.d * (y.d * 19) ≤ 96341445630662272367569520500144
  de' : 0 ≤ x.d * (y.e * 19) ∧ x.d * (y.e * 19) ≤ 96341445630662272367569520500144
  eb' : 0 ≤ x.e * (y.b * 19) ∧ x.e * (y.b * 19) ≤ 96341445630662272367569520500144
  ec' : 0 ≤ x.e * (y.c * 19) ∧ x.e * (y.c * 19) ≤ 96341445630662272367569520500144
  ed' : 0 ≤ x.e * (y.d * 19) ∧ x.e * (y.d * 19) ≤ 96341445630662272367569520500144
  ee' : 0 ≤ x.e * (y.e * 19) ∧ x.e * (y.e * 19) ≤ 96341445630662272367569520500144

theorem MB.of {x y : E5} (hx : x.Ok) (hy : y.Ok) : MB x y := ⟨mb hx.a0 hx.a1 hy.a0 (by have := hy.a1; omega), mb hx.a0 hx.a1 hy.b0 (by have := hy.b1; omega), mb hx.a0 hx.a1 hy.c0 (by have := hy.c1; omega), mb hx.a0 hx.a1 hy.d0 (by have := hy.d1; omega), mb hx.a0 hx.a1 hy.e0 (by have := hy.e1; omega), mb hx.b0 hx.b1 hy.a0 (by have := hy.a1; omega), mb hx.b0 hx.b1 hy.b0 (by have := hy.b1; omega), mb hx.b0 hx.b1 hy.c0 (by have := hy.c1; omega), mb hx.b0 hx.b1 hy.d0 (by have := hy.d1; omega), mb hx.b0 hx.b1 hy.e0 (by have := hy.e1; omega), mb hx.c0 hx.c1 hy.a0 (by have := hy.a1; omega), mb hx.c0 hx.c1 hy.b0 (by have := hy.b1; omega), mb hx.c0 hx.c1 hy.c0 (by have := hy.c1; omega), mb hx.c0 hx.c1 hy.d0 (by have := hy.d1; omega), mb hx.c0 hx.c1 hy.e0 (by have := hy.e1; omega), mb hx.d0 hx.d1 hy.a0 (by have := hy.a1; omega), mb hx.d0 hx.d1 hy.b0 (by have := hy.b1; omega), mb hx.d0 hx.d1 hy.c0 (by have := hy.c1; omega), mb hx.d0 hx.d1 hy.d0 (by have := hy.d1; omega), mb hx.d0 hx.d1 hy.e0 (by have := hy.e1; omega), mb hx.e0 hx.e1 hy.a0 (by have := hy.a1; omega), mb hx.e0 hx.e1 hy.b0 (by have := hy.b1; omega), mb hx.e0 hx.e1 hy.c0 (by have := hy.c1; omega), mb hx.e0 hx.e1 hy.d0 (by have := hy.d1; omega), mb hx.e0 hx.e1 hy.e0 (by have := hy.e1; omega), mb hx.b0 hx.b1 (by have := hy.b0; omega) (by have := hy.b1; omega), mb hx.b0 hx.b1 (by have := hy.c0; omega) (by have := hy.c1; omega), mb hx.b0 hx.b1 (by have := hy.d0; omega) (by have := hy.d1; omega), mb hx.b0 hx.b1 (by have := hy.e0; omega) (by have := hy.e1; omega), mb hx.c0 hx.c1 (by have := hy.b0; omega) (by have := hy.b1; omega), mb hx.c0 hx.c1 (by have := hy.c0; omega) (by have := hy.c1; omega), mb hx.c0 hx.c1 (by have := hy.d0; omega) (by have := hy.d1; omega), mb hx.c0 hx.c1 (by have := hy.e0; omega) (by have := hy.e1; omega), mb hx.d0 hx.d1 (by have := hy.b0; omega) (by have := hy.b1; omega), mb hx.d0 hx.d1 (by have := hy.c0; omega) (by have := hy.c1; omega), mb hx.d0 hx.d1 (by have := hy.d0; omega) (by have := hy.d1; omega), mb hx.d0 hx.d1 (by have := hy.e0; omega) (by have := hy.e1; omega), mb hx.e0 hx.e1 (by have := hy.b0; omega) (by have := hy.b1; omega), mb hx.e0 hx.e1 (by have := hy.c0; omega) (by have := hy.c1; omega), mb hx.e0 hx.e1 (by have := hy.d0; omega) (by have := hy.d1; omega), mb hx.e0 hx.e1 (by have := hy.e0; omega) (by have := hy.e1; omega)⟩

structure MS (x y : E5) : Prop where
  s0 : 0 ≤ m0 x y ∧ m0 x y ≤ 481707228153311361837847602500720
  s1 : 0 ≤ m1 x y ∧ m1 x y ≤ 481707228153311361837847602500720
  s2 : 0 ≤ m2 x y ∧ m2 x y ≤ 481707228153311361837847602500720
  s3 : 0 ≤ m3 x y ∧ m3 x y ≤ 481707228153311361837847602500720
  s4 : 0 ≤ m4 x y ∧ m4 x y ≤ 481707228153311361837847602500720

theorem MS.of {x y : E5} (hx : x.Ok) (hy : y.Ok) : MS x y := by
  have B := MB.of hx hy
  refine ⟨?_, ?_, ?_, ?_, ?_⟩
  · unfold m0; have := B.aa; have := B.be'; have := B.cd'; have := B.dc'; have := B.eb'; omega
  · unfold m1; have := B.ab; have := B.ba; have := B.ce'; have := B.dd'; have := B.ec'; omega
  · unfold m2; have := B.ac; have := B.bb; have := B.ca; have := B.de'; have := B.ed'; omega
  · unfold m3; have := B.ad; have := B.bc; have := B.cb; have := B.da; have := B.ee'; omega
  · unfold m4; have := B.ae; have := B.bd; have := B.cc; have := B.db; have := B.ea; omega

theorem mulF_ok {x y : E5} (hx : x.Ok) (hy : y.Ok) : (mulF x y).Ok := by
  obtain ⟨h0, h1, h2, h3, h4⟩ := MS.of hx hy
  unfold mulF
  generalize m0 x y = n0 at *
  generalize m1 x y = n1 at *
  generalize m2 x y = n2 at *
  generalize m3 x y = n3 at *
  generalize m4 x y = n4 at *
  exact car_ok ⟨by omega, by omega⟩ ⟨by omega, by omega⟩ ⟨by omega, by omega⟩ ⟨by omega, by omega⟩ ⟨by omega, by omega⟩

theorem mul19 (p q : Int) : p * (q * 19) = 19 * (p * q) := by rw [← Int.mul_assoc, Int.mul_comm]

theorem mulF_n (x y : E5) : Cg (mulF x y).n (x.n * y.n) := by
  refine (car_n _ _ _ _ _).trans ?_
  have he : Cg (E5.n ⟨m0 x y % 2251799813685248 + m4 x y / 2251799813685248 * 19, m1 x y % 2251799813685248 + m0 x y / 2251799813685248, m2 x y % 2251799813685248 + m1 x y / 2251799813685248, m3 x y % 2251799813685248 + m2 x y / 2251799813685248, m4 x y % 2251799813685248 + m3 x y / 2251799813685248⟩) (E5.n ⟨m0 x y, m1 x y, m2 x y, m3 x y, m4 x y⟩) := by
    refine ⟨- (m4 x y / 2251799813685248), ?_⟩
    simp only [E5.n, Pm]
    omega
  refine he.trans ?_
  clear he
  obtain ⟨a, b, c, d, e⟩ := x
  obtain ⟨f, g, h, i, j⟩ := y
  refine ⟨- (b * j + c * i + d * h + e * g) - 2251799813685248 * (c * j + d * i + e * h) - 5070602400912917605986812821504 * (d * j + e * i) - 11417981541647679048466287755595961091061972992 * (e * j), ?_⟩
  obtain ⟨X, hX⟩ : ∃ X, X = E5.n ⟨a, b, c, d, e⟩ * E5.n ⟨f, g, h, i, j⟩ := ⟨_, rfl⟩
  rw [← hX]
  simp only [E5.n, Int.add_mul, Int.mul_add, Int.mul_assoc, Int.mul_left_comm a (2251799813685248 : Int), Int.mul_left_comm a (5070602400912917605986812821504 : Int), Int.mul_left_comm a (11417981541647679048466287755595961091061972992 : Int), Int.mul_left_comm a (25711008708143844408671393477458601640355247900524685364822016 : Int), Int.mul_left_comm b (2251799813685248 : Int), Int.mul_left_comm b (5070602400912917605986812821504 : Int), Int.mul_left_comm b (11417981541647679048466287755595961091061972992 : Int), Int.mul_left_comm b (25711008708143844408671393477458601640355247900524685364822016 : Int), Int.mul_left_comm c (2251799813685248 : Int), Int.mul_left_comm c (5070602400912917605986812821504 : Int), Int.mul_left_comm c (11417981541647679048466287755595961091061972992 : Int), Int.mul_left_comm c (25711008708143844408671393477458601640355247900524685364822016 : Int), Int.mul_left_comm d (2251799813685248 : Int), Int.mul_left_comm d (5070602400912917605986812821504 : Int), Int.mul_left_comm d (11417981541647679048466287755595961091061972992 : Int), Int.mul_left_comm d (25711008708143844408671393477458601640355247900524685364822016 : Int), Int.mul_left_comm e (2251799813685248 : Int), Int.mul_left_comm e (5070602400912917605986812821504 : Int), Int.mul_left_comm e (11417981541647679048466287755595961091061972992 : Int), Int.mul_left_comm e (25711008708143844408671393477458601640355247900524685364822016 : Int)] at hX
  simp only [E5.n, m0, m1, m2, m3, m4, mul19, Pm]
  omega

end Go.Proofs.Ytiiniodidkfbiaa
