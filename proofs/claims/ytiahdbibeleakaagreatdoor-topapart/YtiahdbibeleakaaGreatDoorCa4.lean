/- Part 4 of the walks and facts. -/
import Derived.Test.YtiahdbibeleakaaGreatDoorCa3
import Derived.Laws.Bits64b
import Derived.Laws.Externs
import Derived.Laws.StructEq
import Derived.Lib.Mul64
set_option maxHeartbeats 16000000
set_option maxRecDepth 100000
set_option linter.unusedSimpArgs false
set_option linter.unusedVariables false
namespace Go.Proofs.YtiahdbibeleakaaGreatDoor.Mon
open Go.RowKit
theorem hide {p : Prop} (h : p) : Hid p := h
def Pm : Int := 57896044618658097711785492504343953926634992332820282019728792003956564819949
def Cg (x y : Int) : Prop := ∃ k : Int, x = y + k * Pm
theorem Cg.refl (x : Int) : Cg x x := ⟨0, by omega⟩
theorem Cg.of_eq {x y : Int} (h : x = y) : Cg x y := ⟨0, by omega⟩
theorem Cg.symm {x y : Int} (h : Cg x y) : Cg y x := by
 obtain ⟨k, h⟩ := h
 exact ⟨-k, by rw [h, Int.neg_mul]; omega⟩
theorem Cg.trans {x y z : Int} (h : Cg x y) (g : Cg y z) : Cg x z := by
 obtain ⟨k, h⟩ := h
 obtain ⟨l, g⟩ := g
 exact ⟨k + l, by rw [h, g, Int.add_mul]; omega⟩
theorem Cg.add {x y u v : Int} (h : Cg x y) (g : Cg u v) : Cg (x + u) (y + v) := by
 obtain ⟨k, h⟩ := h
 obtain ⟨l, g⟩ := g
 exact ⟨k + l, by rw [h, g, Int.add_mul]; omega⟩
theorem Cg.neg {x y : Int} (h : Cg x y) : Cg (-x) (-y) := by
 obtain ⟨k, h⟩ := h
 exact ⟨-k, by rw [h, Int.neg_mul]; omega⟩
theorem Cg.sub {x y u v : Int} (h : Cg x y) (g : Cg u v) : Cg (x - u) (y - v) := by
 have := h.add g.neg
 simpa [Int.sub_eq_add_neg] using this
theorem Cg.mul {x y u v : Int} (h : Cg x y) (g : Cg u v) : Cg (x * u) (y * v) := by
 obtain ⟨k, h⟩ := h
 obtain ⟨l, g⟩ := g
 refine ⟨y * l + k * v + k * l * Pm, ?_⟩
 rw [h, g]
 simp only [Int.add_mul, Int.mul_add, Int.mul_assoc, Int.mul_comm Pm, Int.mul_left_comm]
 have e : k * (Pm * v) = k * (v * Pm) := by rw [Int.mul_comm Pm]
 omega
theorem Cg.emod {x y : Int} (h : Cg x y) : x % Pm = y % Pm := by
 obtain ⟨k, h⟩ := h
 rw [h, Int.add_mul_emod_self_right]
theorem Cg.of_emod {x y : Int} (h : x % Pm = y % Pm) : Cg x y := by
 refine ⟨x / Pm - y / Pm, ?_⟩
 have a := Int.mul_ediv_add_emod x Pm
 have b := Int.mul_ediv_add_emod y Pm
 rw [Int.sub_mul, Int.mul_comm (x / Pm), Int.mul_comm (y / Pm)]
 omega
theorem cg_emod (x : Int) : Cg (x % Pm) x := Cg.of_emod (Int.emod_emod_of_dvd x (Int.dvd_refl _))
theorem Cg.sub_P (x k : Int) : Cg (x - k * Pm) x := ⟨-k, by rw [Int.neg_mul]; omega⟩
structure E5 where
 a : Int
 b : Int
 c : Int
 d : Int
 e : Int
abbrev E5.v (x : E5) : Value := .agg #[.int .u64 x.a, .int .u64 x.b, .int .u64 x.c, .int .u64 x.d, .int .u64 x.e]
def E5.n (x : E5) : Int := x.a + 2251799813685248 * x.b + 5070602400912917605986812821504 * x.c + 11417981541647679048466287755595961091061972992 * x.d + 25711008708143844408671393477458601640355247900524685364822016 * x.e
structure E5.Ok (x : E5) : Prop where
 a0 : 0 ≤ x.a
 a1 : x.a ≤ 2251799813840876
 b0 : 0 ≤ x.b
 b1 : x.b ≤ 2251799813840876
 c0 : 0 ≤ x.c
 c1 : x.c ≤ 2251799813840876
 d0 : 0 ≤ x.d
 d1 : x.d ≤ 2251799813840876
 e0 : 0 ≤ x.e
 e1 : x.e ≤ 2251799813840876
def W64 (x : Int) : Prop := 0 ≤ x ∧ x < 18446744073709551616
theorem and51 {x : Int} (h : W64 x) : bits .and .u64 x 2251799813685247 = x % 2251799813685248 := by
 rw [u64_and x _ h.1 h.2 (by decide) (by decide)]
 have e : (2251799813685247 : Int).toNat = 2251799813685247 := by decide
 rw [e, nat_mask51]
 have := h.1
 omega
theorem wrap64u {x : Int} (h : W64 x) : IntKind.u64.wrap x = x := by
 rw [IntKind.wrap_u64]
 exact Int.emod_eq_of_lt h.1 h.2
theorem or_join (i K : Nat) (hK : K = 2 ^ i) {x y : Int} (hx : W64 x) (hy : W64 y) (h1 : x % (K : Int) = 0) (h2 : y < (K : Int)) : bits .or .u64 x y = x + y := by
 rw [u64_or x y hx.1 hx.2 hy.1 hy.2]
 have a := hx.1
 have b := hy.1
 obtain ⟨X, rfl⟩ := Int.eq_ofNat_of_zero_le a
 obtain ⟨Y, rfl⟩ := Int.eq_ofNat_of_zero_le b
 simp only [Int.toNat_natCast]
 have h1' : X % K = 0 := by exact_mod_cast h1
 have h2' : Y < K := by omega
 subst hK
 rw [nat_join i X Y h1' h2']
 omega
theorem or_join' (i K : Nat) (hK : K = 2 ^ i) {x y : Int} (hx : W64 x) (hy : W64 y) (h1 : y % (K : Int) = 0) (h2 : x < (K : Int)) : bits .or .u64 x y = x + y := by
 rw [u64_or x y hx.1 hx.2 hy.1 hy.2]
 have a := hx.1
 have b := hy.1
 obtain ⟨X, rfl⟩ := Int.eq_ofNat_of_zero_le a
 obtain ⟨Y, rfl⟩ := Int.eq_ofNat_of_zero_le b
 simp only [Int.toNat_natCast]
 have h1' : Y % K = 0 := by exact_mod_cast h1
 have h2' : X < K := by omega
 subst hK
 rw [Nat.or_comm, nat_join i Y X h1' h2']
 omega
def car (a b c d e : Int) : E5 := ⟨a % 2251799813685248 + e / 2251799813685248 * 19, b % 2251799813685248 + a / 2251799813685248, c % 2251799813685248 + b / 2251799813685248, d % 2251799813685248 + c / 2251799813685248, e % 2251799813685248 + d / 2251799813685248⟩
theorem car_ok {a b c d e : Int} (ha : W64 a) (hb : W64 b) (hc : W64 c) (hd : W64 d) (he : W64 e) : (car a b c d e).Ok := by
 unfold W64 at *
 constructor <;> simp only [car] <;> omega
theorem car_n (a b c d e : Int) : Cg (car a b c d e).n (E5.n ⟨a, b, c, d, e⟩) := by
 refine ⟨- (e / 2251799813685248), ?_⟩
 simp only [car, E5.n, Pm]
 omega
def addF (x y : E5) : E5 := car (x.a + y.a) (x.b + y.b) (x.c + y.c) (x.d + y.d) (x.e + y.e)
def subF (x y : E5) : E5 := car (x.a + 4503599627370458 - y.a) (x.b + 4503599627370494 - y.b) (x.c + 4503599627370494 - y.c) (x.d + 4503599627370494 - y.d) (x.e + 4503599627370494 - y.e)
def zeroE : E5 := ⟨0, 0, 0, 0, 0⟩
def smallF (n : Int) : E5 := car n 0 0 0 0
theorem zeroE_ok : zeroE.Ok := ⟨by decide, by decide, by decide, by decide, by decide, by decide, by decide, by decide, by decide, by decide⟩
theorem zeroE_n : zeroE.n = 0 := by decide
theorem addF_ok {x y : E5} (hx : x.Ok) (hy : y.Ok) : (addF x y).Ok := by
 obtain ⟨a0, a1, b0, b1, c0, c1, d0, d1, e0, e1⟩ := hx
 obtain ⟨f0, f1, g0, g1, h0, h1, i0, i1, j0, j1⟩ := hy
 exact car_ok ⟨by omega, by omega⟩ ⟨by omega, by omega⟩ ⟨by omega, by omega⟩ ⟨by omega, by omega⟩ ⟨by omega, by omega⟩
theorem addF_n (x y : E5) : Cg (addF x y).n (x.n + y.n) := (car_n _ _ _ _ _).trans (Cg.of_eq (by simp only [E5.n]; omega))
theorem subF_ok {x y : E5} (hx : x.Ok) (hy : y.Ok) : (subF x y).Ok := by
 obtain ⟨a0, a1, b0, b1, c0, c1, d0, d1, e0, e1⟩ := hx
 obtain ⟨f0, f1, g0, g1, h0, h1, i0, i1, j0, j1⟩ := hy
 exact car_ok ⟨by omega, by omega⟩ ⟨by omega, by omega⟩ ⟨by omega, by omega⟩ ⟨by omega, by omega⟩ ⟨by omega, by omega⟩
theorem subF_n (x y : E5) : Cg (subF x y).n (x.n - y.n) := (car_n _ _ _ _ _).trans ⟨2, by simp only [E5.n, Pm]; omega⟩
theorem smallF_ok {n : Int} (h0 : 0 ≤ n) (h1 : n < 4294967296) : (smallF n).Ok := car_ok ⟨by omega, by omega⟩ ⟨by decide, by decide⟩ ⟨by decide, by decide⟩ ⟨by decide, by decide⟩ ⟨by decide, by decide⟩
theorem smallF_n (n : Int) : Cg (smallF n).n n := (car_n _ _ _ _ _).trans (Cg.of_eq (by simp only [E5.n]; omega))
def m0 (x y : E5) : Int := x.a * y.a + x.b * (y.e * 19) + x.c * (y.d * 19) + x.d * (y.c * 19) + x.e * (y.b * 19)
def m1 (x y : E5) : Int := x.a * y.b + x.b * y.a + x.c * (y.e * 19) + x.d * (y.d * 19) + x.e * (y.c * 19)
def m2 (x y : E5) : Int := x.a * y.c + x.b * y.b + x.c * y.a + x.d * (y.e * 19) + x.e * (y.d * 19)
def m3 (x y : E5) : Int := x.a * y.d + x.b * y.c + x.c * y.b + x.d * y.a + x.e * (y.e * 19)
def m4 (x y : E5) : Int := x.a * y.e + x.b * y.d + x.c * y.c + x.d * y.b + x.e * y.a
def mulF (x y : E5) : E5 := car (m0 x y % 2251799813685248 + m4 x y / 2251799813685248 * 19) (m1 x y % 2251799813685248 + m0 x y / 2251799813685248) (m2 x y % 2251799813685248 + m1 x y / 2251799813685248) (m3 x y % 2251799813685248 + m2 x y / 2251799813685248) (m4 x y % 2251799813685248 + m3 x y / 2251799813685248)
theorem mb {a b : Int} (a0 : 0 ≤ a) (a1 : a ≤ 2251799813840876) (b0 : 0 ≤ b) (b1 : b ≤ 42784196462976644) : 0 ≤ a * b ∧ a * b ≤ 96341445630662272367569520500144 :=
 ⟨Int.mul_nonneg a0 b0, Int.le_trans (Int.mul_le_mul a1 b1 b0 (by decide)) (by decide)⟩
structure MB (x y : E5) : Prop where
 aa : 0 ≤ x.a * y.a ∧ x.a * y.a ≤ 96341445630662272367569520500144
 ab : 0 ≤ x.a * y.b ∧ x.a * y.b ≤ 96341445630662272367569520500144
 ac : 0 ≤ x.a * y.c ∧ x.a * y.c ≤ 96341445630662272367569520500144
 ad : 0 ≤ x.a * y.d ∧ x.a * y.d ≤ 96341445630662272367569520500144
 ae : 0 ≤ x.a * y.e ∧ x.a * y.e ≤ 96341445630662272367569520500144
 ba : 0 ≤ x.b * y.a ∧ x.b * y.a ≤ 96341445630662272367569520500144
 bb : 0 ≤ x.b * y.b ∧ x.b * y.b ≤ 96341445630662272367569520500144
 bc : 0 ≤ x.b * y.c ∧ x.b * y.c ≤ 96341445630662272367569520500144
 bd : 0 ≤ x.b * y.d ∧ x.b * y.d ≤ 96341445630662272367569520500144
 be : 0 ≤ x.b * y.e ∧ x.b * y.e ≤ 96341445630662272367569520500144
 ca : 0 ≤ x.c * y.a ∧ x.c * y.a ≤ 96341445630662272367569520500144
 cb : 0 ≤ x.c * y.b ∧ x.c * y.b ≤ 96341445630662272367569520500144
 cc : 0 ≤ x.c * y.c ∧ x.c * y.c ≤ 96341445630662272367569520500144
 cd : 0 ≤ x.c * y.d ∧ x.c * y.d ≤ 96341445630662272367569520500144
 ce : 0 ≤ x.c * y.e ∧ x.c * y.e ≤ 96341445630662272367569520500144
 da : 0 ≤ x.d * y.a ∧ x.d * y.a ≤ 96341445630662272367569520500144
 db : 0 ≤ x.d * y.b ∧ x.d * y.b ≤ 96341445630662272367569520500144
 dc : 0 ≤ x.d * y.c ∧ x.d * y.c ≤ 96341445630662272367569520500144
 dd : 0 ≤ x.d * y.d ∧ x.d * y.d ≤ 96341445630662272367569520500144
 de : 0 ≤ x.d * y.e ∧ x.d * y.e ≤ 96341445630662272367569520500144
 ea : 0 ≤ x.e * y.a ∧ x.e * y.a ≤ 96341445630662272367569520500144
 eb : 0 ≤ x.e * y.b ∧ x.e * y.b ≤ 96341445630662272367569520500144
 ec : 0 ≤ x.e * y.c ∧ x.e * y.c ≤ 96341445630662272367569520500144
 ed : 0 ≤ x.e * y.d ∧ x.e * y.d ≤ 96341445630662272367569520500144
 ee : 0 ≤ x.e * y.e ∧ x.e * y.e ≤ 96341445630662272367569520500144
 bb' : 0 ≤ x.b * (y.b * 19) ∧ x.b * (y.b * 19) ≤ 96341445630662272367569520500144
 bc' : 0 ≤ x.b * (y.c * 19) ∧ x.b * (y.c * 19) ≤ 96341445630662272367569520500144
 bd' : 0 ≤ x.b * (y.d * 19) ∧ x.b * (y.d * 19) ≤ 96341445630662272367569520500144
 be' : 0 ≤ x.b * (y.e * 19) ∧ x.b * (y.e * 19) ≤ 96341445630662272367569520500144
 cb' : 0 ≤ x.c * (y.b * 19) ∧ x.c * (y.b * 19) ≤ 96341445630662272367569520500144
 cc' : 0 ≤ x.c * (y.c * 19) ∧ x.c * (y.c * 19) ≤ 96341445630662272367569520500144
 cd' : 0 ≤ x.c * (y.d * 19) ∧ x.c * (y.d * 19) ≤ 96341445630662272367569520500144
 ce' : 0 ≤ x.c * (y.e * 19) ∧ x.c * (y.e * 19) ≤ 96341445630662272367569520500144
 db' : 0 ≤ x.d * (y.b * 19) ∧ x.d * (y.b * 19) ≤ 96341445630662272367569520500144
 dc' : 0 ≤ x.d * (y.c * 19) ∧ x.d * (y.c * 19) ≤ 96341445630662272367569520500144
 dd' : 0 ≤ x.d * (y.d * 19) ∧ x.d * (y.d * 19) ≤ 96341445630662272367569520500144
 de' : 0 ≤ x.d * (y.e * 19) ∧ x.d * (y.e * 19) ≤ 96341445630662272367569520500144
 eb' : 0 ≤ x.e * (y.b * 19) ∧ x.e * (y.b * 19) ≤ 96341445630662272367569520500144
 ec' : 0 ≤ x.e * (y.c * 19) ∧ x.e * (y.c * 19) ≤ 96341445630662272367569520500144
 ed' : 0 ≤ x.e * (y.d * 19) ∧ x.e * (y.d * 19) ≤ 96341445630662272367569520500144
 ee' : 0 ≤ x.e * (y.e * 19) ∧ x.e * (y.e * 19) ≤ 96341445630662272367569520500144
theorem MB.of {x y : E5} (hx : x.Ok) (hy : y.Ok) : MB x y := ⟨mb hx.a0 hx.a1 hy.a0 (by have := hy.a1; omega), mb hx.a0 hx.a1 hy.b0 (by have := hy.b1; omega), mb hx.a0 hx.a1 hy.c0 (by have := hy.c1; omega), mb hx.a0 hx.a1 hy.d0 (by have := hy.d1; omega), mb hx.a0 hx.a1 hy.e0 (by have := hy.e1; omega), mb hx.b0 hx.b1 hy.a0 (by have := hy.a1; omega), mb hx.b0 hx.b1 hy.b0 (by have := hy.b1; omega), mb hx.b0 hx.b1 hy.c0 (by have := hy.c1; omega), mb hx.b0 hx.b1 hy.d0 (by have := hy.d1; omega), mb hx.b0 hx.b1 hy.e0 (by have := hy.e1; omega), mb hx.c0 hx.c1 hy.a0 (by have := hy.a1; omega), mb hx.c0 hx.c1 hy.b0 (by have := hy.b1; omega), mb hx.c0 hx.c1 hy.c0 (by have := hy.c1; omega), mb hx.c0 hx.c1 hy.d0 (by have := hy.d1; omega), mb hx.c0 hx.c1 hy.e0 (by have := hy.e1; omega), mb hx.d0 hx.d1 hy.a0 (by have := hy.a1; omega), mb hx.d0 hx.d1 hy.b0 (by have := hy.b1; omega), mb hx.d0 hx.d1 hy.c0 (by have := hy.c1; omega), mb hx.d0 hx.d1 hy.d0 (by have := hy.d1; omega), mb hx.d0 hx.d1 hy.e0 (by have := hy.e1; omega), mb hx.e0 hx.e1 hy.a0 (by have := hy.a1; omega), mb hx.e0 hx.e1 hy.b0 (by have := hy.b1; omega), mb hx.e0 hx.e1 hy.c0 (by have := hy.c1; omega), mb hx.e0 hx.e1 hy.d0 (by have := hy.d1; omega), mb hx.e0 hx.e1 hy.e0 (by have := hy.e1; omega), mb hx.b0 hx.b1 (by have := hy.b0; omega) (by have := hy.b1; omega), mb hx.b0 hx.b1 (by have := hy.c0; omega) (by have := hy.c1; omega), mb hx.b0 hx.b1 (by have := hy.d0; omega) (by have := hy.d1; omega), mb hx.b0 hx.b1 (by have := hy.e0; omega) (by have := hy.e1; omega), mb hx.c0 hx.c1 (by have := hy.b0; omega) (by have := hy.b1; omega), mb hx.c0 hx.c1 (by have := hy.c0; omega) (by have := hy.c1; omega), mb hx.c0 hx.c1 (by have := hy.d0; omega) (by have := hy.d1; omega), mb hx.c0 hx.c1 (by have := hy.e0; omega) (by have := hy.e1; omega), mb hx.d0 hx.d1 (by have := hy.b0; omega) (by have := hy.b1; omega), mb hx.d0 hx.d1 (by have := hy.c0; omega) (by have := hy.c1; omega), mb hx.d0 hx.d1 (by have := hy.d0; omega) (by have := hy.d1; omega), mb hx.d0 hx.d1 (by have := hy.e0; omega) (by have := hy.e1; omega), mb hx.e0 hx.e1 (by have := hy.b0; omega) (by have := hy.b1; omega), mb hx.e0 hx.e1 (by have := hy.c0; omega) (by have := hy.c1; omega), mb hx.e0 hx.e1 (by have := hy.d0; omega) (by have := hy.d1; omega), mb hx.e0 hx.e1 (by have := hy.e0; omega) (by have := hy.e1; omega)⟩
structure MS (x y : E5) : Prop where
 s0 : 0 ≤ m0 x y ∧ m0 x y ≤ 481707228153311361837847602500720
 s1 : 0 ≤ m1 x y ∧ m1 x y ≤ 481707228153311361837847602500720
 s2 : 0 ≤ m2 x y ∧ m2 x y ≤ 481707228153311361837847602500720
 s3 : 0 ≤ m3 x y ∧ m3 x y ≤ 481707228153311361837847602500720
 s4 : 0 ≤ m4 x y ∧ m4 x y ≤ 481707228153311361837847602500720
theorem MS.of {x y : E5} (hx : x.Ok) (hy : y.Ok) : MS x y := by
 have B := MB.of hx hy
 refine ⟨?_, ?_, ?_, ?_, ?_⟩
 ·unfold m0; have := B.aa; have := B.be'; have := B.cd'; have := B.dc'; have := B.eb'; omega
 ·unfold m1; have := B.ab; have := B.ba; have := B.ce'; have := B.dd'; have := B.ec'; omega
 ·unfold m2; have := B.ac; have := B.bb; have := B.ca; have := B.de'; have := B.ed'; omega
 ·unfold m3; have := B.ad; have := B.bc; have := B.cb; have := B.da; have := B.ee'; omega
 ·unfold m4; have := B.ae; have := B.bd; have := B.cc; have := B.db; have := B.ea; omega
theorem mulF_ok {x y : E5} (hx : x.Ok) (hy : y.Ok) : (mulF x y).Ok := by
 obtain ⟨h0, h1, h2, h3, h4⟩ := MS.of hx hy
 unfold mulF
 generalize m0 x y = n0 at *
 generalize m1 x y = n1 at *
 generalize m2 x y = n2 at *
 generalize m3 x y = n3 at *
 generalize m4 x y = n4 at *
 exact car_ok ⟨by omega, by omega⟩ ⟨by omega, by omega⟩ ⟨by omega, by omega⟩ ⟨by omega, by omega⟩ ⟨by omega, by omega⟩
theorem mul19 (p q : Int) : p * (q * 19) = 19 * (p * q) := by rw [← Int.mul_assoc, Int.mul_comm]
theorem mulF_n (x y : E5) : Cg (mulF x y).n (x.n * y.n) := by
 refine (car_n _ _ _ _ _).trans ?_
 have he : Cg (E5.n ⟨m0 x y % 2251799813685248 + m4 x y / 2251799813685248 * 19, m1 x y % 2251799813685248 + m0 x y / 2251799813685248, m2 x y % 2251799813685248 + m1 x y / 2251799813685248, m3 x y % 2251799813685248 + m2 x y / 2251799813685248, m4 x y % 2251799813685248 + m3 x y / 2251799813685248⟩) (E5.n ⟨m0 x y, m1 x y, m2 x y, m3 x y, m4 x y⟩) := by
  refine ⟨- (m4 x y / 2251799813685248), ?_⟩
  simp only [E5.n, Pm]
  omega
 refine he.trans ?_
 clear he
 obtain ⟨a, b, c, d, e⟩ := x
 obtain ⟨f, g, h, i, j⟩ := y
 refine ⟨- (b * j + c * i + d * h + e * g) - 2251799813685248 * (c * j + d * i + e * h) - 5070602400912917605986812821504 * (d * j + e * i) - 11417981541647679048466287755595961091061972992 * (e * j), ?_⟩
 obtain ⟨X, hX⟩ : ∃ X, X = E5.n ⟨a, b, c, d, e⟩ * E5.n ⟨f, g, h, i, j⟩ := ⟨_, rfl⟩
 rw [← hX]
 simp only [E5.n, Int.add_mul, Int.mul_add, Int.mul_assoc, Int.mul_left_comm a (2251799813685248 : Int), Int.mul_left_comm a (5070602400912917605986812821504 : Int), Int.mul_left_comm a (11417981541647679048466287755595961091061972992 : Int), Int.mul_left_comm a (25711008708143844408671393477458601640355247900524685364822016 : Int), Int.mul_left_comm b (2251799813685248 : Int), Int.mul_left_comm b (5070602400912917605986812821504 : Int), Int.mul_left_comm b (11417981541647679048466287755595961091061972992 : Int), Int.mul_left_comm b (25711008708143844408671393477458601640355247900524685364822016 : Int), Int.mul_left_comm c (2251799813685248 : Int), Int.mul_left_comm c (5070602400912917605986812821504 : Int), Int.mul_left_comm c (11417981541647679048466287755595961091061972992 : Int), Int.mul_left_comm c (25711008708143844408671393477458601640355247900524685364822016 : Int), Int.mul_left_comm d (2251799813685248 : Int), Int.mul_left_comm d (5070602400912917605986812821504 : Int), Int.mul_left_comm d (11417981541647679048466287755595961091061972992 : Int), Int.mul_left_comm d (25711008708143844408671393477458601640355247900524685364822016 : Int), Int.mul_left_comm e (2251799813685248 : Int), Int.mul_left_comm e (5070602400912917605986812821504 : Int), Int.mul_left_comm e (11417981541647679048466287755595961091061972992 : Int), Int.mul_left_comm e (25711008708143844408671393477458601640355247900524685364822016 : Int)] at hX
 simp only [E5.n, m0, m1, m2, m3, m4, mul19, Pm]
 omega
open Go.RowKit
def arr (n : Nat) (f : NI) : Array Value := ((List.range n).map fun i => Value.int .u64 (f i)).toArray
theorem arr_size (n : Nat) (f : NI) : (arr n f).size = n := by simp [arr]
theorem arr_get (n : Nat) (f : NI) (i : Nat) (h : i < n) : (arr n f)[i]? = some (.int .u64 (f i)) := by simp [arr, h]
theorem arr_congr {n : Nat} {f g : NI} (h : ∀ i, i < n → f i = g i) : arr n f = arr n g := by
 unfold arr
 congr 1
 exact List.map_congr_left fun i hi => by rw [h i (List.mem_range.1 hi)]
def upd (f : NI) (k : Nat) (v : Int) : Nat → Int := fun i => if i = k then v else f i
theorem arr_set (n : Nat) (f : NI) (k : Nat) (v : Int) : (arr n f).setIfInBounds k (.int .u64 v) = arr n (upd f k v) := by
 apply Array.ext_getElem?
 intro i
 by_cases hi : i < n
 ·rw [Array.getElem?_setIfInBounds, arr_get n (upd f k v) i hi]
  by_cases hk : k = i
  ·subst hk
   rw [if_pos rfl, if_pos (by rw [arr_size]; exact hi)]
   simp [upd]
  ·have : ¬ i = k := fun h => hk h.symm
   rw [if_neg hk, arr_get n f i hi]
   simp [upd, this]
 ·rw [Array.getElem?_eq_none (by simp [arr_size]; omega), Array.getElem?_eq_none (by simp [arr_size]; omega)]
def Row (w : World) (g : Nat) (T : TypeId) (n : Nat) (f : NI) : Prop := w.heap[g]? = some (.cells (arr n f) T (0, 0))
theorem Row.lt {w : World} {g : Nat} {T : TypeId} {n : Nat} {f : NI} (h : Row w g T n f) : g < w.heap.size := by
 by_cases hlt : g < w.heap.size
 ·exact hlt
 ·have hn : w.heap[g]? = none := by simp; omega
  rw [Row, hn] at h
  cases h
theorem Row.cell {w : World} {g : Nat} {T : TypeId} {n : Nat} {f : NI} (h : Row w g T n f) {i : Nat} (hi : i < n) : w.cell? ⟨g, i, none⟩ = some (.int .u64 (f i)) := by
 rw [cell_of_row w g i (arr n f) T (0, 0) h, arr_get n f i hi]
theorem Row.free {w : World} {g : Nat} {T : TypeId} {n : Nat} {f : NI} (h : Row w g T n f) (i : Nat) : w.frozen? ⟨g, i, none⟩ = false := frozen_of_row w g i (arr n f) T h
theorem Row.set {w : World} {g : Nat} {T : TypeId} {n : Nat} {f : NI} (h : Row w g T n f) (k : Nat) (v : Int) : Row (w.setCell ⟨g, k, none⟩ (.int .u64 v)) g T n (upd f k v) := by
 unfold Row
 rw [heap_setCell_same w g k (arr n f) T _ h, arr_set]
theorem Row.other {w : World} {g : Nat} {T : TypeId} {n : Nat} {f : NI} (h : Row w g T n f) {a : Addr} (ha : g ≠ a.block) (v : Value) : Row (w.setCell a v) g T n f := by
 unfold Row
 rw [heap_setCell_other w a g v ha]
 exact h
theorem Row.keep {w w' : World} {g : Nat} {T : TypeId} {n : Nat} {f : NI} (h : Row w g T n f) (hb : Below w.heap.size w w') : Row w' g T n f := by
 unfold Row
 rw [hb.block g h.lt]
 exact h
theorem Row.alloc {w : World} {g : Nat} {T : TypeId} {n : Nat} {f : NI} (h : Row w g T n f) (o : Obj) : Row (w.alloc o) g T n f := h.keep ((Below.refl _ _).alloc (Nat.le_refl _) _)
theorem Row.congr {w : World} {g : Nat} {T : TypeId} {n : Nat} {f f' : NI} (h : Row w g T n f) (e : ∀ i, i < n → f i = f' i) : Row w g T n f' := by
 unfold Row
 rw [← arr_congr e]
 exact h
theorem Row.new (w : World) (T : TypeId) (n : Nat) (f : NI) : Row (w.alloc (.cells (arr n f) T)) w.heap.size T n f := heap_alloc_new w _
theorem Row.new' (w : World) (T : TypeId) (n : Nat) (f : NI) {g : Nat} (hg : g = w.heap.size) : Row (w.alloc (.cells (arr n f) T)) g T n f := by
 subst hg
 exact heap_alloc_new w _
open Go.RowKit
def setAll (cs : Array Value) : Nat → List Value → Array Value
 | _, [] => cs
 | o, v :: vs => setAll (cs.setIfInBounds o v) (o + 1) vs
theorem setAll_get (vs : List Value) : ∀ (cs : Array Value) (o i : Nat), o + vs.length ≤ cs.size → (setAll cs o vs)[i]? = if o ≤ i ∧ i < o + vs.length then vs[i - o]? else cs[i]? := by
 induction vs with
 | nil =>
  intro cs o i _
  simp only [setAll, List.length_nil]
  rw [if_neg (by omega)]
 | cons v vs ih =>
  intro cs o i h
  simp only [List.length_cons] at h
  simp only [setAll, List.length_cons]
  rw [ih _ _ _ (by simp; omega)]
  by_cases h1 : o + 1 ≤ i ∧ i < o + 1 + vs.length
  ·rw [if_pos h1, if_pos (by omega), show i - o = (i - (o + 1)) + 1 by omega, List.getElem?_cons_succ]
  ·rw [if_neg h1]
   by_cases h2 : i = o
   ·subst h2
    rw [if_pos (by omega), Nat.sub_self, Array.getElem?_setIfInBounds]
    simp
    omega
   ·rw [if_neg (by omega), Array.getElem?_setIfInBounds_ne (by omega)]
theorem heap_setCells (g : Nat) (T : TypeId) (vs : List Value) : ∀ (W : World) (cs : Array Value) (o : Nat), W.heap[g]? = some (.cells cs T (0, 0)) → (W.setCells g o vs).heap[g]? = some (.cells (setAll cs o vs) T (0, 0)) := by
 induction vs with
 | nil => intro W cs o h; exact h
 | cons v vs ih =>
  intro W cs o h
  exact ih _ _ _ (heap_setCell_same W g o cs T v h)
theorem heap_setCells_other (g k : Nat) (hk : k ≠ g) (vs : List Value) : ∀ (W : World) (o : Nat), (W.setCells g o vs).heap[k]? = W.heap[k]? := by
 induction vs with
 | nil => intro W o; rfl
 | cons v vs ih =>
  intro W o
  exact (ih _ _).trans (heap_setCell_other W ⟨g, o, none⟩ k v hk)
theorem below_setCells {B g : Nat} (hg : B ≤ g) (vs : List Value) : ∀ {w W : World} (o : Nat), Below B w W → Below B w (W.setCells g o vs) := by
 induction vs with
 | nil => intro w W o h; exact h
 | cons v vs ih =>
  intro w W o h
  exact ih (o + 1) (h.setCell (p := ⟨g, o, none⟩) hg v)
theorem Row.setAll {W : World} {g : Nat} {T : TypeId} {n : Nat} {f : NI} (h : Row W g T n f) (h' : NI) : Row (W.setCells g 0 (arr n h').toList) g T n h' := by
 unfold Row
 rw [heap_setCells g T _ W (arr n f) 0 h]
 congr 2
 apply Array.ext_getElem?
 intro i
 rw [setAll_get _ _ _ _ (by simp [arr_size])]
 by_cases hi : i < n
 ·rw [if_pos (by simp [arr_size]; omega)]
  simp
 ·rw [if_neg (by simp [arr_size]; omega), Array.getElem?_eq_none (by rw [arr_size]; omega), Array.getElem?_eq_none (by rw [arr_size]; omega)]
theorem Row.setOther {W : World} {g k : Nat} {T : TypeId} {n : Nat} {f : NI} (h : Row W g T n f) (hk : g ≠ k) (o : Nat) (vs : List Value) : Row (W.setCells k o vs) g T n f := by
 unfold Row
 rw [heap_setCells_other k g hk]
 exact h
theorem Row.there {W : World} {g : Nat} {T : TypeId} {n : Nat} {f : NI} (h : Row W g T n f) : W.there g 0 n := fun j hj => by
 rw [Nat.zero_add, h.cell hj]
 exact ⟨rfl, h.free j⟩
theorem arr_one (n : Nat) (f : NI) : (arr n f).all (·.oneCell') = true := by
 rw [Array.all_eq_true]
 intro i hi
 have hi' : i < n := by rw [arr_size] at hi; exact hi
 have h := arr_get n f i hi'
 rw [Array.getElem?_eq_getElem hi] at h
 rw [Option.some.inj h]
 rfl
theorem info108 (f : NI) : (Tryz.prog.info? 108).map (·.size) = some (arr 16 f).size := by rw [arr_size]; kernel_rfl
theorem info135 (f : NI) : (Tryz.prog.info? 135).map (·.size) = some (arr 32 f).size := by rw [arr_size]; kernel_rfl
open Go.RowKit
def S (f : NI) : Nat → Int
 | 0 => 0
 | n + 1 => S f n + f n * 65536 ^ n
theorem p16 (n : Nat) : (0 : Int) < 65536 ^ n := Int.pow_pos (by decide)
theorem p16s (n : Nat) : (65536 : Int) ^ (n + 1) = 65536 * 65536 ^ n := by rw [Int.pow_succ, Int.mul_comm]
def Dig (f : NI) (n : Nat) : Prop := ∀ i, i < n → 0 ≤ f i ∧ f i < 65536
theorem Dig.le {f : NI} {n m : Nat} (h : Dig f n) (hm : m ≤ n) : Dig f m := fun i hi => h i (by omega)
theorem S_bd {f : NI} : ∀ {n : Nat}, Dig f n → 0 ≤ S f n ∧ S f n < 65536 ^ n
 | 0, _ => by simp [S]
 | n + 1, h => by
  have ih := S_bd (n := n) (h.le (by omega))
  have hd := h n (by omega)
  have hp := p16 n
  have h1 : f n * 65536 ^ n ≤ 65535 * 65536 ^ n := Int.mul_le_mul_of_nonneg_right (by omega) (by omega)
  have h2 : 0 ≤ f n * 65536 ^ n := Int.mul_nonneg hd.1 (by omega)
  rw [p16s]
  simp only [S]
  omega
theorem S_congr {f g : NI} : ∀ {n : Nat}, (∀ i, i < n → f i = g i) → S f n = S g n
 | 0, _ => rfl
 | n + 1, h => by
  simp only [S]
  rw [S_congr (n := n) fun i hi => h i (by omega), h n (by omega)]
theorem S_above {f g : NI} {p : Nat} : ∀ {n : Nat}, p ≤ n → (∀ j, p ≤ j → j < n → f j = g j) → S f n - S g n = S f p - S g p := by
 intro n
 induction n with
 | zero => intro h _; have : p = 0 := by omega
           subst this; rfl
 | succ n ih =>
  intro h he
  by_cases hp : p = n + 1
  ·subst hp; rfl
  ·have h1 := ih (by omega) fun j a b => he j a (by omega)
   simp only [S]
   rw [he n (by omega) (by omega)]
   omega
theorem S_lt {f g : NI} {p : Nat} (hf : Dig f 16) (hg : Dig g 16) (hp : p < 16) (he : ∀ j, p + 1 ≤ j → j < 16 → f j = g j) (hne : f p ≠ g p) : decide (f p < g p) = decide (S f 16 < S g 16) := by
 have h1 := S_above (n := 16) (by omega) he
 have h2 := S_bd (hf.le (m := p) (by omega))
 have h3 := S_bd (hg.le (m := p) (by omega))
 have hx := p16 p
 simp only [S] at h1
 generalize S f p = sf at *
 generalize S g p = sg at *
 generalize (65536 : Int) ^ p = X at *
 have hS : (S f 16 < S g 16) ↔ f p < g p := by
  constructor
  ·intro h
   apply Int.lt_of_not_ge
   intro hge
   have : f p ≥ g p + 1 := by omega
   have : (f p - g p) * X ≥ 1 * X := Int.mul_le_mul_of_nonneg_right (by omega) (by omega)
   rw [Int.sub_mul] at this
   have e16 : S f 16 - S g 16 < 0 := by omega
   simp only [S] at e16
   omega
  ·intro h
   have : (g p - f p) * X ≥ 1 * X := Int.mul_le_mul_of_nonneg_right (by omega) (by omega)
   rw [Int.sub_mul] at this
   have e16 : ∀ d, S f 16 - S g 16 = d → d < 0 → S f 16 < S g 16 := fun d a b => by omega
   simp only [S] at e16 ⊢
   omega
 exact decide_eq_decide.2 hS.symm
def wid (f : NI) (k : Nat) : Nat → Int := fun i => if i < k then f i else 0
theorem wide_any (f : NI) (w : World) : Cs 85 #[.agg (arr 16 f)] w (.agg (arr 32 (wid f 16))) := by
 go_enter Tryz.func85, Tryz.ntmps85
 go_wp2
 rw [show #[Value.int .u64 0, Value.int .u64 0, Value.int .u64 0, Value.int .u64 0, Value.int .u64 0, Value.int .u64 0, Value.int .u64 0, Value.int .u64 0, Value.int .u64 0, Value.int .u64 0, Value.int .u64 0, Value.int .u64 0, Value.int .u64 0, Value.int .u64 0, Value.int .u64 0, Value.int .u64 0, Value.int .u64 0, Value.int .u64 0, Value.int .u64 0, Value.int .u64 0, Value.int .u64 0, Value.int .u64 0, Value.int .u64 0, Value.int .u64 0, Value.int .u64 0, Value.int .u64 0, Value.int .u64 0, Value.int .u64 0, Value.int .u64 0, Value.int .u64 0, Value.int .u64 0, Value.int .u64 0] = arr 32 (fun _ => 0) from rfl]
 have R1 : Row (((w.alloc (.cells (arr 16 f) 108)).alloc (.cells (arr 32 fun _ => 0) 135)).alloc (.cells (arr 32 fun _ => 0) 135)) w.heap.size 108 16 f := ((Row.new w 108 16 f).alloc _).alloc _
 have R2 : Row (((w.alloc (.cells (arr 16 f) 108)).alloc (.cells (arr 32 fun _ => 0) 135)).alloc (.cells (arr 32 fun _ => 0) 135)) (w.heap.size + 1) 135 32 fun _ => 0 := (Row.new' _ 135 32 _ (by simp)).alloc _
 have R3 : Row (((w.alloc (.cells (arr 16 f) 108)).alloc (.cells (arr 32 fun _ => 0) 135)).alloc (.cells (arr 32 fun _ => 0) 135)) (w.heap.size + 1 + 1) 135 32 fun _ => 0 := Row.new' _ 135 32 _ (by simp)
 have O : Below w.heap.size w (((w.alloc (.cells (arr 16 f) 108)).alloc (.cells (arr 32 fun _ => 0) 135)).alloc (.cells (arr 32 fun _ => 0) 135)) := (((Below.refl _ _).alloc (Nat.le_refl _) _).alloc (by simp) _).alloc (by simp; omega) _
 generalize ((w.alloc (.cells (arr 16 f) 108)).alloc (.cells (arr 32 fun _ => 0) 135)).alloc (.cells (arr 32 fun _ => 0) 135) = W at R1 R2 R3 O ⊢
 go_loopw [4] (fun i wr => ∃ k : Nat, k ≤ 16 ∧ i = .int .i64 k ∧ Row wr w.heap.size 108 16 f ∧ Row wr (w.heap.size + 1) 135 32 (fun _ => 0) ∧ Row wr (w.heap.size + 1 + 1) 135 32 (wid f k) ∧ Below w.heap.size w wr) (fun i _ => 16 - (intOf i).toNat)
 case atStart => exact ⟨0, by omega, rfl, R1, R2, R3, O⟩
 case round =>
  clear R1 R2 R3 O
  obtain ⟨k, hk, rfl, R1, R2, R3, O⟩ := hrel
  by_cases hlt : k < 16
  ·have c := R1.cell hlt
   have d := R3.cell (i := k) (by omega)
   have e := R3.free k
   have RR := hide ((R3.set k (f k)))
   have R1' := hide (R1.other (a := ⟨w.heap.size + 1 + 1, k, none⟩) (by simp; omega) (.int .u64 (f k)))
   have R2' := hide (R2.other (a := ⟨w.heap.size + 1 + 1, k, none⟩) (by simp) (.int .u64 (f k)))
   have O' := hide (O.setCell (p := ⟨w.heap.size + 1 + 1, k, none⟩) (by simp; omega) (.int .u64 (f k)))
   clear R1 R2 R3 O
   go_wp2
   go_roundw
   case rel => exact ⟨k + 1, by omega, by go_num, R1'.out, R2'.out, RR.out.congr (fun i _ => by unfold upd wid; by_cases h : i = k <;> simp [h] <;> omega), O'.out⟩
   case measure => simp [intOf]; omega
  ·have hk' : k = 16 := by omega
   subst hk'
   have RR := hide (R2.setAll (wid f 16))
   have OO := hide (below_setCells (g := w.heap.size + 1) (by omega) (arr 32 (wid f 16)).toList 0 O)
   go_wp2_with (first | (refine wpList_load_row rfl 135 _ rfl (w.heap.size + 1 + 1) rfl 135 (arr 32 (wid f 16)) (0, 0) _ R3 Tryz.underlying135 rfl (info135 _) ?_) | (refine wpList_store_mid rfl 135 _ _ rfl (w.heap.size + 1) 0 (arr 32 (wid f 16)) rfl rfl (by rw [arr_size]; exact R2.there) (info135 _) (arr_one _ _) ?_))
   exact bodyPost_ret (v := .agg (arr 32 (wid f 16))) (results_cell_row Tryz.results85 _ _ (w.heap.size + 1) 135 (arr 32 (wid f 16)) (0, 0) _ rfl RR.out Tryz.underlying135 rfl (info135 _)) rfl ⟨rfl, OO.out⟩
theorem rowN {w : World} {g : Nat} {T : TypeId} {n : Nat} {f : NI} (h : Row w g T n f) (k : Nat) : Row (w.drewN k) g T n f := h
theorem belN {B : Nat} {a w : World} {n : Nat} (h : Below B a w) : Below B a (w.drewN n) := ⟨h.os, h.tape, h.output, h.size, h.block⟩
theorem less_any (f g : NI) (w : World) (hf : Dig f 16) (hg : Dig g 16) : Cs 108 #[.agg (arr 16 f), .agg (arr 16 g)] w (.bool (decide (S f 16 < S g 16))) := by
 go_enter Tryz.func108, Tryz.ntmps108
 go_wp2
 have R1 : Row ((w.alloc (.cells (arr 16 f) 108)).alloc (.cells (arr 16 g) 108)) w.heap.size 108 16 f := (Row.new w 108 16 f).alloc _
 have R2 : Row ((w.alloc (.cells (arr 16 f) 108)).alloc (.cells (arr 16 g) 108)) (w.heap.size + 1) 108 16 g := Row.new' _ 108 16 _ (by simp)
 have O : Below w.heap.size w ((w.alloc (.cells (arr 16 f) 108)).alloc (.cells (arr 16 g) 108)) := ((Below.refl _ _).alloc (Nat.le_refl _) _).alloc (by simp) _
 generalize (w.alloc (.cells (arr 16 f) 108)).alloc (.cells (arr 16 g) 108) = W at R1 R2 O ⊢
 go_loopw [5] (fun i wr => ∃ m : Nat, m ≤ 16 ∧ (∃ v : Int, v = (m : Int) - 1 ∧ i = .int .i64 v) ∧ (∀ j, m ≤ j → j < 16 → f j = g j) ∧ Row wr w.heap.size 108 16 f ∧ Row wr (w.heap.size + 1) 108 16 g ∧ Below w.heap.size w wr) (fun i _ => (intOf i + 1).toNat)
 case atStart => exact ⟨16, by omega, ⟨15, by omega, rfl⟩, fun j a b => by omega, R1, R2, O⟩
 case round =>
  clear R1 R2 O
  obtain ⟨m, hm, ⟨v, hv, hi⟩, hall, R1, R2, O⟩ := hrel
  rcases m with _ | p
  ·have e : v = -1 := by omega
   rw [e] at hi
   clear hv e
   subst hi
   have HS := hide (S_congr (n := 16) fun i hi => hall i (by omega) hi)
   clear hall
   go_wp2
   go_ret
   refine ⟨?_, O⟩
   rw [HS.out]
   simp
  ·have e : v = (p : Int) := by omega
   rw [e] at hi
   clear hv e
   subst hi
   have c := R1.cell (i := p) (by omega)
   have d := R2.cell (i := p) (by omega)
   have i1 : (0 : Int) ≤ (p : Int) := by omega
   have i2 : (p : Int) < 16 := by omega
   have HA := hide hall
   clear hall
   by_cases hfg : f p = g p
   ·have hb : (f p != g p) = false := by simp [hfg]
    have HF := hide hfg
    clear hfg
    go_wp2_with fail
    go_quiet (fail)
    go_wp2
    go_roundw
    case rel => exact ⟨p, by omega, ⟨_, by omega, rfl⟩, fun j a b => by
     by_cases hj : j = p
     ·rw [hj]; exact HF.out
     ·exact HA.out j (by omega) b, rowN R1 _, rowN R2 _, belN O⟩
    case measure => simp [intOf]
   ·have hb : (f p != g p) = true := by simp [hfg]
    have HL := hide (S_lt hf hg (p := p) (by omega) HA.out hfg)
    clear hfg
    go_wp2_with fail
    go_quiet (fail)
    go_wp2_with fail
    go_quiet (fail)
    go_wp2
    go_ret
    exact ⟨by rw [← HL.out]; rfl, belN (belN O)⟩
open Go.RowKit
def pk (k : Nat) : Nat → Int := fun i => if i = 0 then 65517 else if i < k then 65535 else 0
def pF : Nat → Int := upd (pk 15) 15 32767
theorem prime_any (w : World) : Cs 109 #[] w (.agg (arr 16 pF)) := by
 go_enter Tryz.func109, Tryz.ntmps109
 go_wp2
 rw [show #[Value.int .u64 0, Value.int .u64 0, Value.int .u64 0, Value.int .u64 0, Value.int .u64 0, Value.int .u64 0, Value.int .u64 0, Value.int .u64 0, Value.int .u64 0, Value.int .u64 0, Value.int .u64 0, Value.int .u64 0, Value.int .u64 0, Value.int .u64 0, Value.int .u64 0, Value.int .u64 0] = arr 16 (fun _ => 0) from rfl]
 rw [show #[Value.int .u64 65517, Value.int .u64 0, Value.int .u64 0, Value.int .u64 0, Value.int .u64 0, Value.int .u64 0, Value.int .u64 0, Value.int .u64 0, Value.int .u64 0, Value.int .u64 0, Value.int .u64 0, Value.int .u64 0, Value.int .u64 0, Value.int .u64 0, Value.int .u64 0, Value.int .u64 0] = arr 16 (pk 1) from rfl]
 have R1 : Row ((w.alloc (.cells (arr 16 fun _ => 0) 108)).alloc (.cells (arr 16 (pk 1)) 108)) w.heap.size 108 16 (fun _ => 0) := (Row.new w 108 16 _).alloc _
 have R2 : Row ((w.alloc (.cells (arr 16 fun _ => 0) 108)).alloc (.cells (arr 16 (pk 1)) 108)) (w.heap.size + 1) 108 16 (pk 1) := Row.new' _ 108 16 _ (by simp)
 have O : Below w.heap.size w ((w.alloc (.cells (arr 16 fun _ => 0) 108)).alloc (.cells (arr 16 (pk 1)) 108)) := ((Below.refl _ _).alloc (Nat.le_refl _) _).alloc (by simp) _
 generalize (w.alloc (.cells (arr 16 fun _ => 0) 108)).alloc (.cells (arr 16 (pk 1)) 108) = W at R1 R2 O ⊢
 go_loopw [2] (fun i wr => ∃ k : Nat, 1 ≤ k ∧ k ≤ 15 ∧ i = .int .i64 k ∧ Row wr w.heap.size 108 16 (fun _ => 0) ∧ Row wr (w.heap.size + 1) 108 16 (pk k) ∧ Below w.heap.size w wr) (fun i _ => 15 - (intOf i).toNat)
 case atStart => exact ⟨1, by omega, by omega, rfl, R1, R2, O⟩
 case round =>
  clear R1 R2 O
  obtain ⟨k, hk0, hk, rfl, R1, R2, O⟩ := hrel
  by_cases hlt : k < 15
  ·have d := R2.cell (i := k) (by omega)
   have e := R2.free k
   have RR := hide ((R2.set k 65535))
   have R1' := hide (R1.other (a := ⟨w.heap.size + 1, k, none⟩) (by simp) (.int .u64 65535))
   have O' := hide (O.setCell (p := ⟨w.heap.size + 1, k, none⟩) (by simp) (.int .u64 65535))
   clear R1 R2 O
   go_wp2
   go_roundw
   case rel => exact ⟨k + 1, by omega, by omega, by go_num, R1'.out, RR.out.congr (fun i _ => by unfold upd pk; by_cases h : i = k <;> by_cases h0 : i = 0 <;> simp [h, h0] <;> omega), O'.out⟩
   case measure => simp [intOf]; omega
  ·have hk' : k = 15 := by omega
   subst hk'
   have d := R2.cell (i := 15) (by omega)
   have e := R2.free 15
   have R3 := R2.set 15 32767
   have R1' := R1.other (a := ⟨w.heap.size + 1, 15, none⟩) (by simp) (.int .u64 32767)
   have O' := O.setCell (p := ⟨w.heap.size + 1, 15, none⟩) (by simp) (.int .u64 32767)
   rw [show upd (pk 15) 15 32767 = pF from rfl] at R3
   have RR := hide (R1'.setAll pF)
   have OO := hide (below_setCells (g := w.heap.size) (Nat.le_refl _) (arr 16 pF).toList 0 O')
   clear R1 R2 O O' hlt hk hk0
   go_wp2_with (first | (refine wpList_load_row rfl 108 _ rfl (w.heap.size + 1) rfl 108 (arr 16 pF) (0, 0) _ R3 Tryz.underlying108 rfl (info108 _) ?_) | (refine wpList_store_mid rfl 108 _ _ rfl w.heap.size 0 (arr 16 pF) rfl rfl (by rw [arr_size]; exact R1'.there) (info108 _) (arr_one _ _) ?_))
   exact bodyPost_ret (v := .agg (arr 16 pF)) (results_cell_row Tryz.results109 _ _ w.heap.size 108 (arr 16 pF) (0, 0) _ rfl RR.out Tryz.underlying108 rfl (info108 _)) rfl ⟨rfl, OO.out⟩
theorem pF_dig : Dig pF 16 := fun i _ => by
 unfold pF upd pk
 by_cases h : i = 15
 ·simp [h]
 ·by_cases h0 : i = 0
  ·simp [h0]
  ·by_cases h1 : i < 15 <;> simp [h, h0, h1]
theorem pF_S : S pF 16 = Pm := by decide +kernel
def bor (a b : NI) : Nat → Int
 | 0 => 0
 | k + 1 => 1 - (65536 + a k - b k - bor a b k) / 65536
def minusF (a b : NI) : Nat → Int := fun i => (65536 + a i - b i - bor a b i) % 65536
def mk (a b : NI) (k : Nat) : Nat → Int := fun i => if i < k then minusF a b i else 0
theorem bor_bd {a b : NI} (ha : Dig a 16) (hb : Dig b 16) : ∀ k, k ≤ 16 → 0 ≤ bor a b k ∧ bor a b k ≤ 1
 | 0, _ => by simp [bor]
 | k + 1, h => by
  have ih := bor_bd ha hb k (by omega)
  have h1 := ha k (by omega)
  have h2 := hb k (by omega)
  simp only [bor]
  omega
theorem minusF_dig (a b : NI) (n : Nat) : Dig (minusF a b) n := fun i _ => by unfold minusF; omega
theorem minus_S (a b : NI) : ∀ k, S (minusF a b) k = S a k - S b k + bor a b k * 65536 ^ k
 | 0 => by simp [S, bor]
 | k + 1 => by
  have ih := minus_S a b k
  have e : bor a b (k + 1) * 65536 ^ (k + 1) = 65536 * bor a b (k + 1) * 65536 ^ k := by rw [p16s, ← Int.mul_assoc, Int.mul_comm (bor a b (k + 1)) 65536]
  have e2 : minusF a b k = a k - b k - bor a b k + 65536 * bor a b (k + 1) := by
   simp only [minusF, bor]
   omega
  simp only [S]
  rw [ih, e, e2, Int.add_mul, Int.sub_mul, Int.sub_mul]
  omega
theorem minus_le {a b : NI} (ha : Dig a 16) (hb : Dig b 16) (h : S b 16 ≤ S a 16) : S (minusF a b) 16 = S a 16 - S b 16 := by
 have e := minus_S a b 16
 have h0 := bor_bd ha hb 16 (by omega)
 have h1 := S_bd (minusF_dig a b 16)
 have h2 := S_bd ha
 have h3 := S_bd hb
 have : bor a b 16 = 0 ∨ bor a b 16 = 1 := by omega
 rcases this with h4 | h4
 ·rw [h4] at e; omega
 ·rw [h4] at e; omega
theorem and16 {x : Int} (h0 : 0 ≤ x) (h1 : x < 18446744073709551616) : bits .and .u64 x 65535 = x % 65536 := by
 rw [u64_and x _ h0 h1 (by decide) (by decide)]
 have e : (65535 : Int).toNat = 65535 := by decide
 rw [e, nat_mask16]
 omega
theorem minus_any (a b : NI) (w : World) (ha : Dig a 16) (hb : Dig b 16) : Cs 110 #[.agg (arr 16 a), .agg (arr 16 b)] w (.agg (arr 16 (minusF a b))) := by
 go_enter Tryz.func110, Tryz.ntmps110
 go_wp2
 rw [show #[Value.int .u64 0, Value.int .u64 0, Value.int .u64 0, Value.int .u64 0, Value.int .u64 0, Value.int .u64 0, Value.int .u64 0, Value.int .u64 0, Value.int .u64 0, Value.int .u64 0, Value.int .u64 0, Value.int .u64 0, Value.int .u64 0, Value.int .u64 0, Value.int .u64 0, Value.int .u64 0] = arr 16 (fun _ => 0) from rfl]
 have R1 : Row ((((w.alloc (.cells (arr 16 a) 108)).alloc (.cells (arr 16 b) 108)).alloc (.cells (arr 16 fun _ => 0) 108)).alloc (.cells (arr 16 fun _ => 0) 108)) w.heap.size 108 16 a := (((Row.new w 108 16 a).alloc _).alloc _).alloc _
 have R2 : Row ((((w.alloc (.cells (arr 16 a) 108)).alloc (.cells (arr 16 b) 108)).alloc (.cells (arr 16 fun _ => 0) 108)).alloc (.cells (arr 16 fun _ => 0) 108)) (w.heap.size + 1) 108 16 b := ((Row.new' _ 108 16 _ (by simp)).alloc _).alloc _
 have R3 : Row ((((w.alloc (.cells (arr 16 a) 108)).alloc (.cells (arr 16 b) 108)).alloc (.cells (arr 16 fun _ => 0) 108)).alloc (.cells (arr 16 fun _ => 0) 108)) (w.heap.size + 1 + 1) 108 16 (fun _ => 0) := (Row.new' _ 108 16 _ (by simp)).alloc _
 have R4 : Row ((((w.alloc (.cells (arr 16 a) 108)).alloc (.cells (arr 16 b) 108)).alloc (.cells (arr 16 fun _ => 0) 108)).alloc (.cells (arr 16 fun _ => 0) 108)) (w.heap.size + 1 + 1 + 1) 108 16 (fun _ => 0) := Row.new' _ 108 16 _ (by simp)
 have O : Below w.heap.size w ((((w.alloc (.cells (arr 16 a) 108)).alloc (.cells (arr 16 b) 108)).alloc (.cells (arr 16 fun _ => 0) 108)).alloc (.cells (arr 16 fun _ => 0) 108)) := ((((Below.refl _ _).alloc (Nat.le_refl _) _).alloc (by simp) _).alloc (by simp; omega) _).alloc (by simp; omega) _
 generalize (((w.alloc (.cells (arr 16 a) 108)).alloc (.cells (arr 16 b) 108)).alloc (.cells (arr 16 fun _ => 0) 108)).alloc (.cells (arr 16 fun _ => 0) 108) = W at R1 R2 R3 R4 O ⊢
 go_loopw [6, 7] (fun bo i wr => ∃ k : Nat, k ≤ 16 ∧ bo = .int .u64 (bor a b k) ∧ i = .int .i64 k ∧ Row wr w.heap.size 108 16 a ∧ Row wr (w.heap.size + 1) 108 16 b ∧ Row wr (w.heap.size + 1 + 1) 108 16 (fun _ => 0) ∧ Row wr (w.heap.size + 1 + 1 + 1) 108 16 (mk a b k) ∧ Below w.heap.size w wr) (fun _ i _ => 16 - (intOf i).toNat)
 case atStart => exact ⟨0, by omega, rfl, rfl, R1, R2, R3, R4, O⟩
 case round =>
  clear R1 R2 R3 R4 O
  obtain ⟨k, hk, rfl, rfl, R1, R2, R3, R4, O⟩ := hrel
  by_cases hlt : k < 16
  ·have c := R1.cell hlt
   have d := R2.cell hlt
   have x := R4.cell (i := k) hlt
   have e := R4.free k
   obtain ⟨a0, a1⟩ := ha k hlt
   obtain ⟨b0, b1⟩ := hb k hlt
   obtain ⟨q0, q1⟩ := bor_bd ha hb k (by omega)
   have i1 : (0 : Int) ≤ (k : Int) := by omega
   have i2 : (k : Int) < 16 := by omega
   have ea := and16 (x := 65536 + a k - b k - bor a b k) (by omega) (by omega)
   have HB := hide (show bor a b (k + 1) = 1 - (65536 + a k - b k - bor a b k) / 65536 from rfl)
   have RR := hide (fun n => (rowN R4 n).set k ((65536 + a k - b k - bor a b k) % 65536))
   have R1' := hide (fun n => (rowN R1 n).other (a := ⟨w.heap.size + 1 + 1 + 1, k, none⟩) (by simp; omega) (.int .u64 ((65536 + a k - b k - bor a b k) % 65536)))
   have R2' := hide (fun n => (rowN R2 n).other (a := ⟨w.heap.size + 1 + 1 + 1, k, none⟩) (by simp) (.int .u64 ((65536 + a k - b k - bor a b k) % 65536)))
   have R3' := hide (fun n => (rowN R3 n).other (a := ⟨w.heap.size + 1 + 1 + 1, k, none⟩) (by simp) (.int .u64 ((65536 + a k - b k - bor a b k) % 65536)))
   have O' := hide (fun n => (belN (n := n) O).setCell (p := ⟨w.heap.size + 1 + 1 + 1, k, none⟩) (by simp; omega) (.int .u64 ((65536 + a k - b k - bor a b k) % 65536)))
   clear R1 R2 R3 R4 O
   generalize hbo : bor a b k = bo at *
   have HO := hide hbo
   clear hbo
   go_wp2_with fail
   go_quiet (fail)
   go_wp2
   exact ⟨⟨k + 1, by omega, by rw [HB.out], by go_num, R1'.out _, R2'.out _, R3'.out _, (RR.out _).congr (fun i _ => by
    unfold upd mk
    by_cases h : i = k
    ·subst h
     simp [minusF, HO.out]
    ·simp [h]
     omega), O'.out _⟩, by simp [intOf]; omega⟩
  ·have hk' : k = 16 := by omega
   subst hk'
   have e : arr 16 (mk a b 16) = arr 16 (minusF a b) := arr_congr fun i hi => by unfold mk; rw [if_pos hi]
   unfold Row at R4
   rw [e] at R4
   have RR := hide (R3.setAll (minusF a b))
   have OO := hide (below_setCells (g := w.heap.size + 1 + 1) (by omega) (arr 16 (minusF a b)).toList 0 O)
   go_wp2_with (first | (refine wpList_load_row rfl 108 _ rfl (w.heap.size + 1 + 1 + 1) rfl 108 (arr 16 (minusF a b)) (0, 0) _ R4 Tryz.underlying108 rfl (info108 _) ?_) | (refine wpList_store_mid rfl 108 _ _ rfl (w.heap.size + 1 + 1) 0 (arr 16 (minusF a b)) rfl rfl (by rw [arr_size]; exact R3.there) (info108 _) (arr_one _ _) ?_))
   exact bodyPost_ret (v := .agg (arr 16 (minusF a b))) (results_cell_row Tryz.results110 _ _ (w.heap.size + 1 + 1) 108 (arr 16 (minusF a b)) (0, 0) _ rfl RR.out Tryz.underlying108 rfl (info108 _)) rfl ⟨rfl, OO.out⟩
open Go.RowKit
def cf (t : NI) : Nat → Int
 | 0 => 0
 | k + 1 => (t k + cf t k) / 65536
def lo (t : NI) : Nat → Int := fun i => (t i + cf t i) % 65536
theorem lo_dig (t : NI) (n : Nat) : Dig (lo t) n := fun i _ => by unfold lo; omega
theorem pass_S (t : NI) : ∀ k, S (lo t) k + cf t k * 65536 ^ k = S t k
 | 0 => by simp [S, cf]
 | k + 1 => by
  have ih := pass_S t k
  have e : cf t (k + 1) * 65536 ^ (k + 1) = 65536 * cf t (k + 1) * 65536 ^ k := by rw [p16s, ← Int.mul_assoc, Int.mul_comm (cf t (k + 1)) 65536]
  have e2 : lo t k = t k + cf t k - 65536 * cf t (k + 1) := by
   simp only [lo, cf]
   omega
  simp only [S]
  rw [e, e2, Int.sub_mul, Int.add_mul]
  omega
theorem S_shift (f : NI) (n : Nat) : ∀ m, S f (n + m) = S f n + 65536 ^ n * S (fun i => f (n + i)) m
 | 0 => by simp [S]
 | m + 1 => by
  have ih := S_shift f n m
  rw [← Nat.add_assoc]
  simp only [S]
  rw [ih, Int.mul_add, Int.pow_add, Int.mul_left_comm, Int.add_assoc]
theorem S_zero (n : Nat) : S (fun _ => 0) n = 0 := by
 induction n with
 | zero => rfl
 | succ n ih => simp only [S, ih]; simp
def foldF (u : NI) : Nat → Int := fun i => if i < 16 then u i + 38 * u (16 + i) else 0
theorem fold_S (u : NI) : ∀ n, n ≤ 16 → S (foldF u) n = S u n + 38 * S (fun i => u (16 + i)) n
 | 0, _ => by simp [S]
 | n + 1, h => by
  have ih := fold_S u n (by omega)
  simp only [S]
  rw [ih, foldF, if_pos (by omega), Int.add_mul, Int.mul_add, Int.mul_assoc]
  omega
theorem S_upper_zero (f : NI) (h : ∀ i, 16 ≤ i → i < 32 → f i = 0) : S f 32 = S f 16 := by
 have e := S_shift f 16 16
 rw [show 16 + 16 = 32 from rfl] at e
 rw [e, S_congr (f := fun i => f (16 + i)) (g := fun _ => 0) fun i hi => h (16 + i) (by omega) (by omega), S_zero]
 simp
def T1 (t : NI) : Nat → Int := upd (foldF (lo t)) 0 (foldF (lo t) 0 + 1444 * cf t 32)
theorem S_upd0 (f : NI) (v : Int) : ∀ n, S (upd f 0 v) (n + 1) = S f (n + 1) - f 0 + v
 | 0 => by simp [S, upd]
 | n + 1 => by
  have ih := S_upd0 f v n
  show S (upd f 0 v) (n + 1) + upd f 0 v (n + 1) * 65536 ^ (n + 1) = S f (n + 1) + f (n + 1) * 65536 ^ (n + 1) - f 0 + v
  rw [ih]
  simp only [upd]
  rw [if_neg (by omega)]
  omega
theorem T1_up (t : NI) (i : Nat) (h : 16 ≤ i) : T1 t i = 0 := by
 unfold T1 upd foldF
 rw [if_neg (by omega), if_neg (by omega)]
theorem T1_S (t : NI) : Cg (S (T1 t) 32) (S t 32) := by
 rw [S_upper_zero (T1 t) fun i h _ => T1_up t i h]
 have e1 : S (T1 t) 16 = S (foldF (lo t)) 16 + 1444 * cf t 32 := by
  have h := S_upd0 (foldF (lo t)) (foldF (lo t) 0 + 1444 * cf t 32) 15
  rw [show 15 + 1 = 16 from rfl] at h
  unfold T1
  rw [h]
  omega
 have e2 := fold_S (lo t) 16 (by omega)
 have e3 := pass_S t 32
 have e4 := S_shift (lo t) 16 16
 rw [show 16 + 16 = 32 from rfl] at e4
 have p1 : (65536 : Int) ^ 16 = 2 * Pm + 38 := by decide
 have p2 : (65536 : Int) ^ 32 = (2 * Pm + 76) * (2 * Pm) + 1444 := by decide
 rw [e4, p2, p1] at e3
 rw [e1, e2]
 generalize S (fun i => lo t (16 + i)) 16 = h at *
 generalize S (lo t) 16 = l at *
 generalize cf t 32 = c at *
 refine ⟨- (2 * h) - c * ((2 * Pm + 76) * 2), ?_⟩
 rw [← e3]
 simp only [Int.mul_add, Int.add_mul, Int.sub_mul, Int.neg_mul, Int.mul_assoc, Int.mul_comm Pm]
 omega
structure B48 (t : NI) : Prop where
 b : ∀ i, i < 32 → 0 ≤ t i ∧ t i < 281474976710656
theorem cf_bd {t : NI} (h : B48 t) : ∀ k, k ≤ 32 → 0 ≤ cf t k ∧ cf t k ≤ 8589934592
 | 0, _ => by simp [cf]
 | k + 1, hk => by
  have ih := cf_bd h k (by omega)
  have := h.b k (by omega)
  simp only [cf]
  omega
def Jl : Nat → (Nat → Int) → Prop
 | 0, t => B48 t
 | 1, t => (∀ i, 16 ≤ i → i < 32 → t i = 0) ∧ (0 ≤ t 0 ∧ t 0 ≤ 17592186044416) ∧ ∀ i, 1 ≤ i → i < 16 → 0 ≤ t i ∧ t i ≤ 2555865
 | 2, t => (∀ i, 16 ≤ i → i < 32 → t i = 0) ∧ (0 ≤ t 0 ∧ t 0 ≤ 67100) ∧ ∀ i, 1 ≤ i → i < 16 → 0 ≤ t i ∧ t i ≤ 65535
 | _, t => (∀ i, 16 ≤ i → i < 32 → t i = 0) ∧ Dig t 16
theorem Jl.b48 {k : Nat} {t : NI} (hk : k ≤ 3) (h : Jl k t) : B48 t := by
 have hc : k = 0 ∨ k = 1 ∨ k = 2 ∨ k = 3 := by omega
 rcases hc with rfl | rfl | rfl | rfl
 ·exact h
 all_goals
  refine ⟨fun i hi => ?_⟩
  by_cases h16 : 16 ≤ i
  ·rw [h.1 i h16 hi]; omega
  ·first
   | (have := h.2 i (by omega); omega)
   | (by_cases h0 : i = 0
      ·have := h.2.1; rw [h0]; omega
      ·have := h.2.2 i (by omega) (by omega); omega)
theorem T1_low {t : NI} (hz : ∀ i, 16 ≤ i → i < 32 → t i = 0) (hc : 0 ≤ cf t 16 ∧ cf t 16 ≤ 65535) : T1 t 0 = lo t 0 + 38 * cf t 16 ∧ ∀ i, 1 ≤ i → i < 16 → T1 t i = lo t i := by
 have h17 : ∀ j, cf t (17 + j) = 0 ∨ 15 ≤ j := by
  intro j
  induction j with
  | zero => left; show (t 16 + cf t 16) / 65536 = 0; rw [hz 16 (by omega) (by omega)]; omega
  | succ j ih =>
   by_cases hj : 15 ≤ j + 1
   ·exact .inr hj
   ·left
    rcases ih with ih | ih
    ·show (t (17 + j) + cf t (17 + j)) / 65536 = 0
     rw [ih, hz (17 + j) (by omega) (by omega)]
     decide
    ·omega
 have h32 : cf t 32 = 0 := by
  have a : cf t 31 = 0 := by rcases h17 14 with h | h; · exact h
                             ·omega
  show (t 31 + cf t 31) / 65536 = 0
  rw [a, hz 31 (by omega) (by omega)]
  decide
 have hl : ∀ i, 1 ≤ i → i < 16 → lo t (16 + i) = 0 := by
  intro i h1 h2
  have a : cf t (16 + i) = 0 := by
   have := h17 (i - 1)
   rw [show 17 + (i - 1) = 16 + i by omega] at this
   rcases this with h | h
   ·exact h
   ·have : i = 16 := by omega
    omega
  unfold lo
  rw [a, hz (16 + i) (by omega) (by omega)]
  decide
 have h16 : lo t 16 = cf t 16 := by
  unfold lo
  rw [hz 16 (by omega) (by omega)]
  omega
 refine ⟨?_, fun i h1 h2 => ?_⟩
 ·unfold T1 upd
  rw [if_pos rfl, h32]
  unfold foldF
  rw [if_pos (by omega), Nat.add_zero, h16]
  omega
 ·unfold T1 upd
  rw [if_neg (by omega)]
  unfold foldF
  rw [if_pos h2, hl i h1 h2]
  omega
theorem Jl.next {k : Nat} {t : NI} (hk : k < 3) (h : Jl k t) : Jl (k + 1) (T1 t) := by
 have hB := h.b48 (by omega)
 have hc : k = 0 ∨ k = 1 ∨ k = 2 := by omega
 rcases hc with rfl | rfl | rfl
 ·have hcf := cf_bd hB 32 (by omega)
  have hlo := lo_dig t 32
  refine ⟨fun i a _ => T1_up t i a, ?_, fun i h1 h2 => ?_⟩
  ·unfold T1 upd foldF
   have := hlo 0 (by omega)
   have := hlo 16 (by omega)
   simp
   omega
  ·unfold T1 upd foldF
   have := hlo i (by omega)
   have := hlo (16 + i) (by omega)
   rw [if_neg (by omega), if_pos h2]
   omega
 ·obtain ⟨hz, h0, hi⟩ := h
  have c0 : cf t 0 = 0 := rfl
  have c1 : 0 ≤ cf t 1 ∧ cf t 1 ≤ 268435456 := by show 0 ≤ (t 0 + cf t 0) / 65536 ∧ (t 0 + cf t 0) / 65536 ≤ 268435456; rw [c0]; omega
  have c2 : 0 ≤ cf t 2 ∧ cf t 2 ≤ 5000 := by
   have := hi 1 (by omega) (by omega)
   show 0 ≤ (t 1 + cf t 1) / 65536 ∧ (t 1 + cf t 1) / 65536 ≤ 5000
   omega
  have c3 : ∀ j, 3 + j ≤ 16 → 0 ≤ cf t (3 + j) ∧ cf t (3 + j) ≤ 39 := by
   intro j
   induction j with
   | zero =>
    intro _
    have := hi 2 (by omega) (by omega)
    show 0 ≤ (t 2 + cf t 2) / 65536 ∧ (t 2 + cf t 2) / 65536 ≤ 39
    omega
   | succ j ih =>
    intro hj
    have ih := ih (by omega)
    have := hi (3 + j) (by omega) (by omega)
    show 0 ≤ (t (3 + j) + cf t (3 + j)) / 65536 ∧ (t (3 + j) + cf t (3 + j)) / 65536 ≤ 39
    omega
  have h16 := c3 13 (by omega)
  rw [show 3 + 13 = 16 from rfl] at h16
  have hT := T1_low hz (by omega)
  have hlo := lo_dig t 32
  refine ⟨fun i a _ => T1_up t i a, ?_, fun i h1 h2 => ?_⟩
  ·rw [hT.1]
   have := hlo 0 (by omega)
   omega
  ·rw [hT.2 i h1 h2]
   have := hlo i (by omega)
   omega
 ·obtain ⟨hz, h0, hi⟩ := h
  have c0 : cf t 0 = 0 := rfl
  have c1 : 0 ≤ cf t 1 ∧ cf t 1 ≤ 1 := by show 0 ≤ (t 0 + cf t 0) / 65536 ∧ (t 0 + cf t 0) / 65536 ≤ 1; rw [c0]; omega
  have c3 : ∀ j, 1 + j ≤ 16 → 0 ≤ cf t (1 + j) ∧ cf t (1 + j) ≤ cf t 1 := by
   intro j
   induction j with
   | zero => intro _; show 0 ≤ cf t 1 ∧ cf t 1 ≤ cf t 1; omega
   | succ j ih =>
    intro hj
    have ih := ih (by omega)
    have := hi (1 + j) (by omega) (by omega)
    show 0 ≤ (t (1 + j) + cf t (1 + j)) / 65536 ∧ (t (1 + j) + cf t (1 + j)) / 65536 ≤ cf t 1
    omega
  have h16 := c3 15 (by omega)
  rw [show 1 + 15 = 16 from rfl] at h16
  have hT := T1_low hz (by omega)
  have hlo := lo_dig t 32
  have e1 : cf t 1 = (t 0 + cf t 0) / 65536 := rfl
  have el : lo t 0 = (t 0 + cf t 0) % 65536 := rfl
  rw [c0] at e1 el
  refine ⟨fun i a _ => T1_up t i a, fun i h2 => ?_⟩
  by_cases hi0 : i = 0
  ·rw [hi0, hT.1]
   omega
  ·rw [hT.2 i (by omega) h2]
   exact hlo i (by omega)
def d16 (N : Int) : Nat → Int := fun i => N / 65536 ^ i % 65536
theorem S_inj {f g : NI} : ∀ {n : Nat}, Dig f n → Dig g n → S f n = S g n → ∀ i, i < n → f i = g i
 | 0, _, _, _, i, hi => by omega
 | n + 1, hf, hg, h, i, hi => by
  have bf := S_bd (hf.le (m := n) (by omega))
  have bg := S_bd (hg.le (m := n) (by omega))
  have hp := p16 n
  simp only [S] at h
  have hn : f n = g n := by
   apply Classical.byContradiction
   intro hne
   have : f n < g n ∨ g n < f n := by omega
   rcases this with hl | hl
   ·have : (g n - f n) * 65536 ^ n ≥ 1 * 65536 ^ n := Int.mul_le_mul_of_nonneg_right (by omega) (by omega)
    rw [Int.sub_mul] at this
    omega
   ·have : (f n - g n) * 65536 ^ n ≥ 1 * 65536 ^ n := Int.mul_le_mul_of_nonneg_right (by omega) (by omega)
    rw [Int.sub_mul] at this
    omega
  by_cases hin : i = n
  ·rw [hin]; exact hn
  ·refine S_inj (n := n) (hf.le (by omega)) (hg.le (by omega)) ?_ i (by omega)
   rw [hn] at h
   omega
theorem d16_dig (N : Int) (n : Nat) : Dig (d16 N) n := fun i _ => by unfold d16; omega
theorem d16_S (N : Int) (h0 : 0 ≤ N) : ∀ n, S (d16 N) n = N % 65536 ^ n
 | 0 => by simp [S]
 | n + 1 => by
  simp only [S]
  rw [d16_S N h0 n, d16, Int.pow_succ]
  have hp := p16 n
  generalize (65536 : Int) ^ n = X at *
  have a := Int.mul_ediv_add_emod N X
  have b := Int.mul_ediv_add_emod (N / X) 65536
  have r0 := Int.emod_nonneg N (by omega : X ≠ 0)
  have r1 := Int.emod_lt_of_pos N hp
  have hN : N = (N % X + N / X % 65536 * X) + X * 65536 * (N / X / 65536) := by
   have e : X * (N / X) = X * (65536 * (N / X / 65536) + N / X % 65536) := by rw [b]
   rw [Int.mul_add] at e
   rw [Int.mul_comm (N / X % 65536) X, Int.mul_assoc]
   omega
  have q : N / X % 65536 * X ≤ 65535 * X := Int.mul_le_mul_of_nonneg_right (by omega) (by omega)
  have q0 : 0 ≤ N / X % 65536 * X := Int.mul_nonneg (by omega) (by omega)
  have hM : N % (X * 65536) = (N % X + N / X % 65536 * X + X * 65536 * (N / X / 65536)) % (X * 65536) := by rw [← hN]
  rw [hM, Int.add_mul_emod_self_left]
  exact (Int.emod_eq_of_lt (by omega) (by omega)).symm
open Go.RowKit
structure EAt (W : World) (g : Nat) (x : E5) : Prop where
 size : g < W.heap.size
 free : ∀ o, W.frozen? ⟨g, o, none⟩ = false
 c0 : W.cell? ⟨g, 0, none⟩ = some (.int .u64 x.a)
 c1 : W.cell? ⟨g, 1, none⟩ = some (.int .u64 x.b)
 c2 : W.cell? ⟨g, 2, none⟩ = some (.int .u64 x.c)
 c3 : W.cell? ⟨g, 3, none⟩ = some (.int .u64 x.d)
 c4 : W.cell? ⟨g, 4, none⟩ = some (.int .u64 x.e)
theorem EAt.keep {W W' : World} {g : Nat} {x : E5} (h : EAt W g x) (hb : Below W.heap.size W W') : EAt W' g x :=
 ⟨Nat.lt_of_lt_of_le h.size hb.size, fun o => (hb.frozen (p := ⟨g, o, none⟩) h.size).trans (h.free o), (hb.cell (p := ⟨g, 0, none⟩) h.size).trans h.c0, (hb.cell (p := ⟨g, 1, none⟩) h.size).trans h.c1, (hb.cell (p := ⟨g, 2, none⟩) h.size).trans h.c2, (hb.cell (p := ⟨g, 3, none⟩) h.size).trans h.c3, (hb.cell (p := ⟨g, 4, none⟩) h.size).trans h.c4⟩
theorem EAt.new (W : World) (x : E5) (T : TypeId) : EAt (W.alloc (.cells #[.int .u64 x.a, .int .u64 x.b, .int .u64 x.c, .int .u64 x.d, .int .u64 x.e] T)) W.heap.size x := by
 refine ⟨by simp, ?_, ?_, ?_, ?_, ?_, ?_⟩ <;> simp [go_sem]
theorem new_below (W : World) (o : Obj) : Below W.heap.size W (W.alloc o) := (Below.refl _ _).alloc (Nat.le_refl _) _
theorem EAt.alloc {W : World} {g : Nat} {x : E5} (h : EAt W g x) (o : Obj) : EAt (W.alloc o) g x := h.keep (new_below W o)
theorem EAt.k0 {W : World} {g : Nat} {x : E5} (h : EAt W g x) (s : KW W) : s.w.cell? ⟨g, 0, none⟩ = some (.int .u64 x.a) := (h.keep s.keep).c0
theorem EAt.k1 {W : World} {g : Nat} {x : E5} (h : EAt W g x) (s : KW W) : s.w.cell? ⟨g, 1, none⟩ = some (.int .u64 x.b) := (h.keep s.keep).c1
theorem EAt.k2 {W : World} {g : Nat} {x : E5} (h : EAt W g x) (s : KW W) : s.w.cell? ⟨g, 2, none⟩ = some (.int .u64 x.c) := (h.keep s.keep).c2
theorem EAt.k3 {W : World} {g : Nat} {x : E5} (h : EAt W g x) (s : KW W) : s.w.cell? ⟨g, 3, none⟩ = some (.int .u64 x.d) := (h.keep s.keep).c3
theorem EAt.k4 {W : World} {g : Nat} {x : E5} (h : EAt W g x) (s : KW W) : s.w.cell? ⟨g, 4, none⟩ = some (.int .u64 x.e) := (h.keep s.keep).c4
theorem KW.some (W : World) : Nonempty (KW W) := ⟨⟨W, Below.refl _ _⟩⟩
structure Out (w W : World) (g : Nat) : Prop where
 old : Below w.heap.size w W
 ge : w.heap.size ≤ g
 lie : EAt W g zeroE
theorem Out.keep {w W W' : World} {g : Nat} (h : Out w W g) (hb : Below W.heap.size W W') : Out w W' g := ⟨h.old.trans (hb.mono h.old.size), h.ge, h.lie.keep hb⟩
theorem Out.start1 (w : World) (o : Obj) : Out w ((w.alloc o).alloc (.cells #[.int .u64 0, .int .u64 0, .int .u64 0, .int .u64 0, .int .u64 0] 143)) (w.heap.size + 1) := by
 refine ⟨(new_below w o).trans ((new_below (w.alloc o) _).mono (by simp)), by omega, ?_⟩
 have h := EAt.new (w.alloc o) zeroE 143
 rwa [World.size_alloc] at h
theorem EAt.new1 (w : World) (x : E5) (o : Obj) : EAt ((w.alloc (.cells #[.int .u64 x.a, .int .u64 x.b, .int .u64 x.c, .int .u64 x.d, .int .u64 x.e] 143)).alloc o) w.heap.size x := (EAt.new w x 143).alloc o
theorem five {B g : Nat} {w w1 : World} (h : Below B w w1) (hg : B ≤ g) {u0 u1 u2 u3 u4 : Value} :
  Below B w (((((w1.setCell ⟨g, 0, none⟩ u0).setCell ⟨g, 1, none⟩ u1).setCell ⟨g, 2, none⟩ u2).setCell ⟨g, 3, none⟩ u3).setCell ⟨g, 4, none⟩ u4) :=
 ((((h.setCell (p := ⟨g, 0, none⟩) hg u0).setCell (p := ⟨g, 1, none⟩) hg u1).setCell (p := ⟨g, 2, none⟩) hg u2).setCell (p := ⟨g, 3, none⟩) hg u3).setCell (p := ⟨g, 4, none⟩) hg u4
theorem EAt.of_zero {W : World} {g : Nat} (h : W.heap[g]? = some (.cells #[.int .u64 0, .int .u64 0, .int .u64 0, .int .u64 0, .int .u64 0] 143)) : EAt W g zeroE := by
 have hlt : g < W.heap.size := by
  by_cases hlt : g < W.heap.size
  ·exact hlt
  ·have hn : W.heap[g]? = none := by simp; omega
   rw [hn] at h
   cases h
 refine ⟨hlt, fun o => by simp [World.frozen?, h], ?_, ?_, ?_, ?_, ?_⟩ <;> simp [World.cell?, h, zeroE]
abbrev put5 (W : World) (g : Nat) (z : E5) : World := ((((W.setCell ⟨g, 0, none⟩ (.int .u64 z.a)).setCell ⟨g, 1, none⟩ (.int .u64 z.b)).setCell ⟨g, 2, none⟩ (.int .u64 z.c)).setCell ⟨g, 3, none⟩ (.int .u64 z.d)).setCell ⟨g, 4, none⟩ (.int .u64 z.e)
theorem EAt.put {W : World} {g : Nat} {x : E5} (h : EAt W g x) (z : E5) : EAt (put5 W g z) g z := by
 obtain ⟨hs, hf, c0, c1, c2, c3, c4⟩ := h
 refine ⟨?_, ?_, ?_, ?_, ?_, ?_, ?_⟩ <;> simp [go_sem, hs, hf, c0, c1, c2, c3, c4]
theorem EAt.other {W : World} {g k : Nat} {x : E5} (h : EAt W g x) (hk : g ≠ k) (z : E5) : EAt (put5 W k z) g x := by
 obtain ⟨hs, hf, c0, c1, c2, c3, c4⟩ := h
 refine ⟨?_, ?_, ?_, ?_, ?_, ?_, ?_⟩ <;> simp [go_sem, hs, hf, c0, c1, c2, c3, c4]
theorem Out.other {w W : World} {g k : Nat} (h : Out w W g) (hk : g ≠ k) (hle : w.heap.size ≤ k) (z : E5) : Out w (put5 W k z) g := ⟨five h.old hle, h.ge, h.lie.other hk z⟩
open Go.RowKit
def ps (t : NI) (k : Nat) : Nat → Int := fun i => if i < k then lo t i else t i
def fs (u : NI) (k : Nat) : Nat → Int := fun i => if i < k then u i + 38 * u (16 + i) else if 16 ≤ i ∧ i < 16 + k then 0 else u i
theorem fs_step (u : NI) (m i : Nat) (hm : m < 16) (hi : i < 32) : upd (upd (fs u m) m (u m + 38 * u (16 + m))) (16 + m) 0 i = fs u (m + 1) i := by
 unfold upd fs
 repeat' split
 all_goals first | omega | (have e : i = m := by omega
                            subst e
                            omega)
theorem fs_last (t : NI) (i : Nat) (hi : i < 32) : upd (fs (lo t) 16) 0 (lo t 0 + 38 * lo t 16 + 1444 * cf t 32) i = T1 t i := by
 unfold T1 upd fs foldF
 by_cases h1 : i = 0
 ·simp [h1]
 ·rw [if_neg h1, if_neg h1]
  by_cases h2 : i < 16
  ·rw [if_pos h2, if_pos h2]
  ·rw [if_neg h2, if_neg h2, if_pos (by omega)]
theorem rowD {w : World} {g : Nat} {T : TypeId} {n : Nat} {f : NI} (h : Row w g T n f) : Row w.drew g T n f := h
theorem fin_eq {u : NI} {N : Int} (hU : Dig u 16) (hC : Cg (S u 16) N) (hlt : S u 16 < Pm) : arr 16 (d16 (N % Pm)) = arr 16 u := by
 have e := hC.emod
 have h0 := (S_bd hU).1
 rw [Int.emod_eq_of_lt h0 hlt] at e
 rw [← e]
 refine arr_congr (S_inj (d16_dig _ 16) hU ?_)
 rw [d16_S _ h0, Int.emod_eq_of_lt h0 (S_bd hU).2]
def meas (W : World) (g : Nat) : Nat :=
 match W.heap[g]? with
 | some (.cells cs _ _) => (S (fun i => intOf (cs.getD i undef)) 16).toNat
 | _ => 0
theorem meas_row {W : World} {g : Nat} {T : TypeId} {f : NI} (h : Row W g T 16 f) : meas W g = (S f 16).toNat := by
 unfold meas
 rw [h]
 show (S (fun i => intOf ((arr 16 f).getD i undef)) 16).toNat = _
 rw [S_congr (g := f) fun i hi => by
  rw [Array.getD_eq_getD_getElem?, arr_get 16 f i hi]
  rfl]
theorem reduce_any (t0 : NI) (w : World) (h0 : B48 t0) : Cs 84 #[.agg (arr 32 t0)] w (.agg (arr 16 (d16 (S t0 32 % Pm)))) := by
 go_enter Tryz.func84, Tryz.ntmps84
 go_wp2
 rw [show #[Value.int .u64 0, Value.int .u64 0, Value.int .u64 0, Value.int .u64 0, Value.int .u64 0, Value.int .u64 0, Value.int .u64 0, Value.int .u64 0, Value.int .u64 0, Value.int .u64 0, Value.int .u64 0, Value.int .u64 0, Value.int .u64 0, Value.int .u64 0, Value.int .u64 0, Value.int .u64 0] = arr 16 (fun _ => 0) from rfl]
 have R1 : Row ((w.alloc (.cells (arr 32 t0) 135)).alloc (.cells (arr 16 fun _ => 0) 108)) w.heap.size 135 32 t0 := (Row.new w 135 32 t0).alloc _
 have R2 : Row ((w.alloc (.cells (arr 32 t0) 135)).alloc (.cells (arr 16 fun _ => 0) 108)) (w.heap.size + 1) 108 16 (fun _ => 0) := Row.new' _ 108 16 _ (by simp)
 have O : Below w.heap.size w ((w.alloc (.cells (arr 32 t0) 135)).alloc (.cells (arr 16 fun _ => 0) 108)) := ((Below.refl _ _).alloc (Nat.le_refl _) _).alloc (by simp) _
 generalize (w.alloc (.cells (arr 32 t0) 135)).alloc (.cells (arr 16 fun _ => 0) 108) = W at R1 R2 O ⊢
 go_loopw [3] (fun r wr => ∃ k : Nat, k ≤ 3 ∧ r = .int .i64 k ∧ (∃ t, Jl k t ∧ Cg (S t 32) (S t0 32) ∧ Row wr w.heap.size 135 32 t) ∧ Row wr (w.heap.size + 1) 108 16 (fun _ => 0) ∧ Below w.heap.size w wr) (fun r _ => 3 - (intOf r).toNat)
 case atStart => exact ⟨0, by omega, rfl, ⟨t0, h0, Cg.refl _, R1⟩, R2, O⟩
 case round =>
  clear R1 R2 O
  obtain ⟨k, hk, rfl, ⟨t, hJ, hC, R1⟩, R2, O⟩ := hrel
  by_cases hlt : k < 3
  ·have hB := hJ.b48 hk
   have HJ := hide (hJ.next hlt)
   have HC := hide ((T1_S t).trans hC)
   clear hJ hC
   go_wp2
   go_loopw [4, 5] (fun c i wq => ∃ j : Nat, j ≤ 32 ∧ c = .int .u64 (cf t j) ∧ i = .int .i64 j ∧ Row wq w.heap.size 135 32 (ps t j) ∧ Row wq (w.heap.size + 1) 108 16 (fun _ => 0) ∧ Below w.heap.size w wq) (fun _ i _ => 32 - (intOf i).toNat)
   case atStart => exact ⟨0, by omega, rfl, rfl, R1.congr (fun i _ => by unfold ps; rw [if_neg (by omega)]), R2, O⟩
   case round =>
    clear R1 R2 O
    obtain ⟨j, hj, rfl, rfl, R1, R2, O⟩ := hrel
    by_cases hjl : j < 32
    ·have c := R1.cell hjl
     rw [show ps t j j = t j by unfold ps; rw [if_neg (by omega)]] at c
     have e := R1.free j
     obtain ⟨a0, a1⟩ := hB.b j hjl
     obtain ⟨b0, b1⟩ := cf_bd hB j (by omega)
     have ea := and16 (x := t j + cf t j) (by omega) (by omega)
     have HN := hide (show cf t (j + 1) = (t j + cf t j) / 65536 from rfl)
     have HL := hide (show lo t j = (t j + cf t j) % 65536 from rfl)
     have RR := hide (R1.set j ((t j + cf t j) % 65536))
     have R2' := hide (R2.other (a := ⟨w.heap.size, j, none⟩) (by simp) (.int .u64 ((t j + cf t j) % 65536)))
     have O' := hide (O.setCell (p := ⟨w.heap.size, j, none⟩) (by simp) (.int .u64 ((t j + cf t j) % 65536)))
     clear R1 R2 O
     go_wp2
     go_roundw
     case rel => exact ⟨j + 1, by omega, by rw [HN.out], by go_num, RR.out.congr (fun i _ => by
      unfold upd ps
      by_cases h : i = j
      ·subst h
       simp [HL.out]
      ·by_cases h2 : i < j
       ·simp [h, h2, show i < j + 1 by omega]
       ·simp [h, h2, show ¬ i < j + 1 by omega]), R2'.out, O'.out⟩
     case measure => simp [intOf]; omega
    ·have hj' : j = 32 := by omega
     subst hj'
     have R1' : Row wr w.heap.size 135 32 (fs (lo t) 0) := R1.congr (fun i hi => by
      unfold ps fs
      rw [if_pos hi, if_neg (by omega), if_neg (by omega)])
     have hlo := lo_dig t 32
     have hcf := cf_bd hB 32 (by omega)
     clear R1
     go_wp2
     go_loopw [7] (fun i wq => ∃ m : Nat, m ≤ 16 ∧ i = .int .i64 m ∧ Row wq w.heap.size 135 32 (fs (lo t) m) ∧ Row wq (w.heap.size + 1) 108 16 (fun _ => 0) ∧ Below w.heap.size w wq) (fun i _ => 16 - (intOf i).toNat)
     case atStart => exact ⟨0, by omega, rfl, R1', R2, O⟩
     case round =>
      clear R1' R2 O
      obtain ⟨m, hm, rfl, R1, R2, O⟩ := hrel
      by_cases hml : m < 16
      ·have c := R1.cell (i := m) (by omega)
       have d := R1.cell (i := 16 + m) (by omega)
       rw [show fs (lo t) m m = lo t m by unfold fs; rw [if_neg (by omega), if_neg (by omega)]] at c
       rw [show fs (lo t) m (16 + m) = lo t (16 + m) by unfold fs; rw [if_neg (by omega), if_neg (by omega)]] at d
       have e := R1.free
       obtain ⟨a0, a1⟩ := hlo m (by omega)
       obtain ⟨b0, b1⟩ := hlo (16 + m) (by omega)
       have i1 : (0 : Int) ≤ (m : Int) := by omega
       have i2 : (m : Int) < 16 := by omega
       clear hlo hcf hB
       go_wp2_with fail
       go_region
       go_wp2
       exact ⟨⟨m + 1, by omega, by go_num, rowD (((R1.set m (lo t m + 38 * lo t (16 + m))).set (16 + m) 0).congr (fun i hi => fs_step (lo t) m i hml hi)), rowD ((R2.other (a := ⟨w.heap.size, m, none⟩) (by simp) _).other (a := ⟨w.heap.size, 16 + m, none⟩) (by simp) _), ((O.setCell (p := ⟨w.heap.size, m, none⟩) (Nat.le_refl _) _).setCell (p := ⟨w.heap.size, 16 + m, none⟩) (Nat.le_refl _) _).drew⟩, by simp [intOf]; omega⟩
      ·have hm' : m = 16 := by omega
       subst hm'
       have c := R1.cell (i := 0) (by omega)
       have e := R1.free 0
       rw [show fs (lo t) 16 0 = lo t 0 + 38 * lo t 16 by unfold fs; rw [if_pos (by omega)]] at c
       obtain ⟨a0, a1⟩ := hlo 0 (by omega)
       obtain ⟨b0, b1⟩ := hlo 16 (by omega)
       obtain ⟨f0, f1⟩ := hcf
       have RR := hide ((R1.set 0 (lo t 0 + 38 * lo t 16 + 1444 * cf t 32)).congr (f' := T1 t) (fun i hi => fs_last t i hi))
       have R2' := hide (R2.other (a := ⟨w.heap.size, 0, none⟩) (by simp) (.int .u64 (lo t 0 + 38 * lo t 16 + 1444 * cf t 32)))
       have O' := hide (O.setCell (p := ⟨w.heap.size, 0, none⟩) (Nat.le_refl _) (.int .u64 (lo t 0 + 38 * lo t 16 + 1444 * cf t 32)))
       clear R1 R2 O hlo hB
       go_wp2
       exact ⟨⟨k + 1, by omega, by go_num, ⟨T1 t, HJ.out, HC.out, RR.out⟩, R2'.out, O'.out⟩, by simp [intOf]; omega⟩
  ·have hk' : k = 3 := by omega
   subst hk'
   obtain ⟨hz, hD⟩ := hJ
   have HV := hide (show Cg (S t 16) (S t0 32) by rw [← S_upper_zero t hz]; exact hC)
   clear hC hlt hk
   go_wp2
   go_loopw [8] (fun r wq => ∃ k : Nat, k ≤ 3 ∧ r = .int .i64 k ∧ Row wq w.heap.size 135 32 t ∧ Row wq (w.heap.size + 1) 108 16 (fun _ => 0) ∧ Below w.heap.size w wq) (fun r _ => 3 - (intOf r).toNat)
   case atStart => exact ⟨0, by omega, rfl, R1, R2, O⟩
   case round =>
    clear R1 R2 O
    obtain ⟨k, hk, rfl, R1, R2, O⟩ := hrel
    by_cases hlt : k < 3
    ·go_wp2
     go_loopw [9, 10] (fun c i wq => ∃ j : Nat, j ≤ 16 ∧ c = .int .u64 0 ∧ i = .int .i64 j ∧ Row wq w.heap.size 135 32 t ∧ Row wq (w.heap.size + 1) 108 16 (fun _ => 0) ∧ Below w.heap.size w wq) (fun _ i _ => 16 - (intOf i).toNat)
     case atStart => exact ⟨0, by omega, rfl, rfl, R1, R2, O⟩
     case round =>
      clear R1 R2 O
      obtain ⟨j, hj, rfl, rfl, R1, R2, O⟩ := hrel
      by_cases hjl : j < 16
      ·have c := R1.cell (i := j) (by omega)
       have e := R1.free j
       obtain ⟨a0, a1⟩ := hD j hjl
       have ea : bits BinOp.and IntKind.u64 (t j) 65535 = t j := by rw [and16 a0 (by omega)]; omega
       have ed : t j / 65536 = 0 := by omega
       have RR := hide ((R1.set j (t j)).congr (f' := t) (fun i _ => by unfold upd; by_cases h : i = j <;> simp [h]))
       have R2' := hide (R2.other (a := ⟨w.heap.size, j, none⟩) (by simp) (.int .u64 (t j)))
       have O' := hide (O.setCell (p := ⟨w.heap.size, j, none⟩) (Nat.le_refl _) (.int .u64 (t j)))
       clear R1 R2 O
       go_wp2
       go_roundw
       case rel => exact ⟨j + 1, by omega, rfl, by go_num, RR.out, R2'.out, O'.out⟩
       case measure => simp [intOf]; omega
      ·have hj' : j = 16 := by omega
       subst hj'
       have c := R1.cell (i := 0) (by omega)
       have e := R1.free 0
       obtain ⟨a0, a1⟩ := hD 0 (by omega)
       have RR := hide ((R1.set 0 (t 0)).congr (f' := t) (fun i _ => by unfold upd; by_cases h : i = 0 <;> simp [h]))
       have R2' := hide (R2.other (a := ⟨w.heap.size, 0, none⟩) (by simp) (.int .u64 (t 0)))
       have O' := hide (O.setCell (p := ⟨w.heap.size, 0, none⟩) (Nat.le_refl _) (.int .u64 (t 0)))
       clear R1 R2 O
       go_wp2
       exact ⟨⟨k + 1, by omega, by go_num, RR.out, R2'.out, O'.out⟩, by simp [intOf]; omega⟩
    ·have hk' : k = 3 := by omega
     subst hk'
     go_wp2
     rw [show #[Value.int .u64 0, Value.int .u64 0, Value.int .u64 0, Value.int .u64 0, Value.int .u64 0, Value.int .u64 0, Value.int .u64 0, Value.int .u64 0, Value.int .u64 0, Value.int .u64 0, Value.int .u64 0, Value.int .u64 0, Value.int .u64 0, Value.int .u64 0, Value.int .u64 0, Value.int .u64 0] = arr 16 (fun _ => 0) from rfl]
     have hg := R2.lt
     have R3 : Row (wr.alloc (.cells (arr 16 fun _ => 0) 108)) wr.heap.size 108 16 (fun _ => 0) := Row.new _ 108 16 _
     replace R1 := R1.alloc (.cells (arr 16 fun _ => 0) 108)
     replace R2 := R2.alloc (.cells (arr 16 fun _ => 0) 108)
     replace O := O.alloc (by omega) (.cells (arr 16 fun _ => 0) 108)
     generalize wr.heap.size = gN at *
     generalize wr.alloc (.cells (arr 16 fun _ => 0) 108) = W6 at *
     go_loopw [13] (fun i wq => ∃ m : Nat, m ≤ 16 ∧ i = .int .i64 m ∧ Row wq w.heap.size 135 32 t ∧ Row wq (w.heap.size + 1) 108 16 (fun _ => 0) ∧ Row wq gN 108 16 (wid t m) ∧ Below w.heap.size w wq) (fun i _ => 16 - (intOf i).toNat)
     case atStart => exact ⟨0, by omega, rfl, R1, R2, R3, O⟩
     case round =>
      clear R1 R2 R3 O
      obtain ⟨m, hm, rfl, R1, R2, R3, O⟩ := hrel
      by_cases hml : m < 16
      ·have c := R1.cell (i := m) (by omega)
       have d := R3.cell (i := m) (by omega)
       have e := R3.free m
       have RR := hide ((R3.set m (t m)).congr (f' := wid t (m + 1)) (fun i _ => by unfold upd wid; by_cases h : i = m <;> simp [h] <;> omega))
       have R1' := hide (R1.other (a := ⟨gN, m, none⟩) (by simp; omega) (.int .u64 (t m)))
       have R2' := hide (R2.other (a := ⟨gN, m, none⟩) (by simp; omega) (.int .u64 (t m)))
       have O' := hide (O.setCell (p := ⟨gN, m, none⟩) (by simp; omega) (.int .u64 (t m)))
       clear R1 R2 R3 O
       go_wp2
       go_roundw
       case rel => exact ⟨m + 1, by omega, by go_num, R1'.out, R2'.out, RR.out, O'.out⟩
       case measure => simp [intOf]; omega
      ·have hm' : m = 16 := by omega
       subst hm'
       replace R3 := R3.congr (f' := t) (fun i hi => by unfold wid; rw [if_pos hi])
       clear R1 hz hml hm
       go_wp2_with fail
       go_loopw [91] (fun _ wq => ∃ u : Nat → Int, Dig u 16 ∧ Cg (S u 16) (S t0 32) ∧ Row wq (w.heap.size + 1) 108 16 (fun _ => 0) ∧ Row wq gN 108 16 u ∧ Below w.heap.size w wq) (fun _ wq => meas wq gN)
       case atStart => exact ⟨t, hD, HV.out, R2, R3, O⟩
       case round =>
        clear R2 R3 O HV hD
        obtain ⟨u, hU, hC, R2, R3, O⟩ := hrel
        have HC := hide hC
        clear hC
        have hne := KW.some wr
        have hg3 : ∀ w', (∃ s : KW wr, w' = s.w) → w'.heap[gN]? = some (.cells (arr 16 u) 108 (0, 0)) := by
         rintro _ ⟨s, rfl⟩
         exact R3.keep s.keep
        have HG := hide hg3
        clear hg3
        go_wp2_with fail
        refine wp_region_keep (by kernel_rfl) (by kernel_rfl) ?_
        go_big_quiet_want
        refine quiet_load_row 108 _ rfl gN rfl 108 (arr 16 u) (0, 0) _ HG.out Tryz.underlying108 rfl (info108 _) ?_
        go_simp
        go_big_quiet_on
        go_big_quiet_step ((exact keep_of (prime_any _)))
        go_big_quiet_step ((exact keep_of (less_any u pF _ hU pF_dig)))
        rw [pF_S]
        by_cases hlt : S u 16 < Pm
        ·rw [decide_eq_true hlt]
         go_big_quiet_step (fail)
         refine wpQuiet_nil ?_
         intro s
         replace R2 := R2.keep s.keep
         replace R3 := R3.keep s.keep
         replace O := O.trans (s.keep.mono O.size)
         generalize s.w = W7 at R2 R3 O ⊢
         have RR := hide (R2.setAll u)
         have OO := hide (below_setCells (g := w.heap.size + 1) (by omega) (arr 16 u).toList 0 O)
         have HE := hide (fin_eq hU HC.out hlt)
         clear HG hne hlt
         go_wp2_with (first | (refine wpList_load_row rfl 108 _ rfl gN rfl 108 (arr 16 u) (0, 0) _ R3 Tryz.underlying108 rfl (info108 _) ?_) | (refine wpList_store_mid rfl 108 _ _ rfl (w.heap.size + 1) 0 (arr 16 u) rfl rfl (by rw [arr_size]; exact R2.there) (info108 _) (arr_one _ _) ?_))
         exact bodyPost_ret (v := .agg (arr 16 u)) (results_cell_row Tryz.results84 _ _ (w.heap.size + 1) 108 (arr 16 u) (0, 0) _ rfl RR.out Tryz.underlying108 rfl (info108 _)) rfl ⟨by rw [HE.out], OO.out⟩
        ·rw [decide_eq_false hlt]
         go_big_quiet_step (fail)
         refine wpQuiet_nil ?_
         intro s
         have HM := hide (meas_row R3)
         replace R2 := R2.keep s.keep
         replace R3 := R3.keep s.keep
         replace O := O.trans (s.keep.mono O.size)
         generalize s.w = W7 at R2 R3 O ⊢
         have hle : S pF 16 ≤ S u 16 := by rw [pF_S]; omega
         have HS := hide (minus_le hU pF_dig hle)
         have HL := hide hle
         clear HG hne hlt hle
         have hne := KW.some W7
         have hg3 : ∀ w', (∃ s : KW W7, w' = s.w) → w'.heap[gN]? = some (.cells (arr 16 u) 108 (0, 0)) := by
          rintro _ ⟨s, rfl⟩
          exact R3.keep s.keep
         have HG := hide hg3
         clear hg3
         go_wp2_with fail
         refine wp_region_keep_tail 3 (by kernel_rfl) (by kernel_rfl) ?_
         simp only [List.take_succ_cons, List.take_zero, List.drop_succ_cons, List.drop_zero]
         go_big_quiet_want
         refine quiet_load_row 108 _ rfl gN rfl 108 (arr 16 u) (0, 0) _ HG.out Tryz.underlying108 rfl (info108 _) ?_
         go_simp
         go_big_quiet_on
         go_big_quiet_step ((exact keep_of (prime_any _)))
         go_big_quiet_step ((exact keep_of (minus_any u pF _ hU pF_dig)))
         refine wpQuiet_nil ?_
         intro s
         replace R2 := R2.keep s.keep
         replace R3 := R3.keep s.keep
         replace O := O.trans (s.keep.mono O.size)
         generalize s.w = W8 at R2 R3 O ⊢
         have RR := hide (R3.setAll (minusF u pF))
         have R2' := hide (R2.setOther (k := gN) (by omega) 0 (arr 16 (minusF u pF)).toList)
         have OO := hide (below_setCells (g := gN) (by omega) (arr 16 (minusF u pF)).toList 0 O)
         clear HG hne
         go_wp2_with (refine wpList_store_mid rfl 108 _ _ rfl gN 0 (arr 16 (minusF u pF)) rfl rfl (by rw [arr_size]; exact R3.there) (info108 _) (arr_one _ _) ?_)
         refine ⟨⟨_, _, _, _, _, _, _, ⟨minusF u pF, minusF_dig u pF 16, ?_, R2'.out, RR.out, OO.out⟩, rfl⟩, ?_⟩
         ·rw [HS.out, pF_S]
          have := Cg.sub_P (S u 16) 1
          rw [Int.one_mul] at this
          exact this.trans HC.out
         ·rw [meas_row RR.out, HM.out, HS.out, pF_S]
          have := HL.out
          rw [pF_S] at this
          unfold Pm at *
          omega
open Go.RowKit
theorem carR {a b : Int} (ha : W64 a) (hb : W64 b) : IntKind.u64.wrap (bits BinOp.and IntKind.u64 b 2251799813685247 + a / 2251799813685248) = b % 2251799813685248 + a / 2251799813685248 := by
 rw [and51 hb]
 unfold W64 at *
 exact wrap64u ⟨by omega, by omega⟩
theorem carR0 {a b : Int} (ha : W64 a) (hb : W64 b) : IntKind.u64.wrap (bits BinOp.and IntKind.u64 b 2251799813685247 + IntKind.u64.wrap (a / 2251799813685248 * 19)) = b % 2251799813685248 + a / 2251799813685248 * 19 := by
 rw [and51 hb]
 unfold W64 at *
 rw [wrap64u (x := a / 2251799813685248 * 19) ⟨by omega, by omega⟩]
 exact wrap64u ⟨by omega, by omega⟩
theorem carried_any (a b c d e : Int) (w : World) (ha : W64 a) (hb : W64 b) (hc : W64 c) (hd : W64 d) (he : W64 e) : Calls Tryz.prog 122 #[.int .u64 a, .int .u64 b, .int .u64 c, .int .u64 d, .int .u64 e] w fun r w' => r = .returned (car a b c d e).v ∧ Below w.heap.size w w' := by
 go_enter Tryz.func122, Tryz.ntmps122
 go_wp2
 rw [carR0 he ha, carR ha hb, carR hb hc, carR hc hd, carR hd he]
 exact bodyPost_ret (v := (car a b c d e).v) (by simp [results, Tryz.results122, go_sem, car]) rfl ⟨rfl, (Below.refl _ _).alloc (Nat.le_refl _) _⟩
theorem bcell {W w1 : World} (hb : Below W.heap.size W w1) : (∀ b o, b < W.heap.size → w1.cell? ⟨b, o, none⟩ = W.cell? ⟨b, o, none⟩) ∧ (∀ b o, b < W.heap.size → w1.frozen? ⟨b, o, none⟩ = W.frozen? ⟨b, o, none⟩) :=
 ⟨fun b o h => hb.cell (p := ⟨b, o, none⟩) h, fun b o h => hb.frozen (p := ⟨b, o, none⟩) h⟩
theorem below3 {w w1 : World} {A B C : Obj} (hb : Below (((w.alloc A).alloc B).alloc C).heap.size (((w.alloc A).alloc B).alloc C) w1) : Below w.heap.size w w1 :=
 ((((Below.refl _ _).alloc (Nat.le_refl _) _).alloc (by simp) _).alloc (by simp; omega) _).trans (hb.mono (by simp; omega))
theorem below2 {w w1 : World} {A B : Obj} (hb : Below ((w.alloc A).alloc B).heap.size ((w.alloc A).alloc B) w1) : Below w.heap.size w w1 :=
 (((Below.refl _ _).alloc (Nat.le_refl _) _).alloc (by simp) _).trans (hb.mono (by simp; omega))
theorem below1 {w w1 : World} {A : Obj} (hb : Below (w.alloc A).heap.size (w.alloc A) w1) : Below w.heap.size w w1 :=
 ((Below.refl _ _).alloc (Nat.le_refl _) _).trans (hb.mono (by simp))
theorem set5 {B g : Nat} {w w1 : World} (h : Below B w w1) (hg : B ≤ g) {u0 u1 u2 u3 u4 : Value} :
  Below B w (((((w1.setCell ⟨g, 0, none⟩ u0).setCell ⟨g, 1, none⟩ u1).setCell ⟨g, 2, none⟩ u2).setCell ⟨g, 3, none⟩ u3).setCell ⟨g, 4, none⟩ u4) :=
 ((((h.setCell (p := ⟨g, 0, none⟩) hg u0).setCell (p := ⟨g, 1, none⟩) hg u1).setCell (p := ⟨g, 2, none⟩) hg u2).setCell (p := ⟨g, 3, none⟩) hg u3).setCell (p := ⟨g, 4, none⟩) hg u4
theorem add_any (x y : E5) (w : World) (hx : x.Ok) (hy : y.Ok) : Calls Tryz.prog 148 #[x.v, y.v] w fun r w' => r = .returned (addF x y).v ∧ Below w.heap.size w w' := by
 obtain ⟨a0, a1, b0, b1, c0, c1, d0, d1, e0, e1⟩ := hx
 obtain ⟨f0, f1, g0, g1, h0, h1, i0, i1, j0, j1⟩ := hy
 go_enter Tryz.func148, Tryz.ntmps148
 go_wp2_with fail
 refine (carried_any _ _ _ _ _ _ ⟨by omega, by omega⟩ ⟨by omega, by omega⟩ ⟨by omega, by omega⟩ ⟨by omega, by omega⟩ ⟨by omega, by omega⟩).mono ?_
 rintro _ w1 ⟨rfl, hb⟩
 obtain ⟨z, hz⟩ : ∃ z, addF x y = z := ⟨_, rfl⟩
 have hz' := hz
 unfold addF at hz'
 rw [hz']
 have H := hide hz
 have H3 := hide (below3 hb)
 obtain ⟨hc, hf⟩ := bcell hb
 have hs : w.heap.size + 1 + 1 < w1.heap.size := by have := hb.size; simp at this; omega
 clear hz hz' hb a0 a1 b0 b1 c0 c1 d0 d1 e0 e1 f0 f1 g0 g1 h0 h1 i0 i1 j0 j1
 go_wp2
 refine bodyPost_ret (v := z.v) (by simp [results, Tryz.results148, go_sem, hc]) rfl ⟨by rw [H.out], ?_⟩
 exact set5 H3.out (by omega)
theorem sub_any (x y : E5) (w : World) (hx : x.Ok) (hy : y.Ok) : Calls Tryz.prog 149 #[x.v, y.v] w fun r w' => r = .returned (subF x y).v ∧ Below w.heap.size w w' := by
 obtain ⟨a0, a1, b0, b1, c0, c1, d0, d1, e0, e1⟩ := hx
 obtain ⟨f0, f1, g0, g1, h0, h1, i0, i1, j0, j1⟩ := hy
 go_enter Tryz.func149, Tryz.ntmps149
 go_wp2_with fail
 refine (carried_any _ _ _ _ _ _ ⟨by omega, by omega⟩ ⟨by omega, by omega⟩ ⟨by omega, by omega⟩ ⟨by omega, by omega⟩ ⟨by omega, by omega⟩).mono ?_
 rintro _ w1 ⟨rfl, hb⟩
 obtain ⟨z, hz⟩ : ∃ z, subF x y = z := ⟨_, rfl⟩
 have hz' := hz
 unfold subF at hz'
 rw [hz']
 have H := hide hz
 have H3 := hide (below3 hb)
 obtain ⟨hc, hf⟩ := bcell hb
 have hs : w.heap.size + 1 + 1 < w1.heap.size := by have := hb.size; simp at this; omega
 clear hz hz' hb a0 a1 b0 b1 c0 c1 d0 d1 e0 e1 f0 f1 g0 g1 h0 h1 i0 i1 j0 j1
 go_wp2
 refine bodyPost_ret (v := z.v) (by simp [results, Tryz.results149, go_sem, hc]) rfl ⟨by rw [H.out], ?_⟩
 exact set5 H3.out (by omega)
theorem small_any (n : Int) (w : World) (h0 : 0 ≤ n) (h1 : n < 4294967296) : Calls Tryz.prog 96 #[.int .u32 n] w fun r w' => r = .returned (smallF n).v ∧ Below w.heap.size w w' := by
 go_enter Tryz.func96, Tryz.ntmps96
 go_wp2_with fail
 refine (carried_any _ _ _ _ _ _ ⟨by omega, by omega⟩ ⟨by decide, by decide⟩ ⟨by decide, by decide⟩ ⟨by decide, by decide⟩ ⟨by decide, by decide⟩).mono ?_
 rintro _ w1 ⟨rfl, hb⟩
 obtain ⟨z, hz⟩ : ∃ z, smallF n = z := ⟨_, rfl⟩
 have hz' := hz
 unfold smallF at hz'
 rw [hz']
 have H := hide hz
 have H3 := hide (below1 hb)
 obtain ⟨hc, hf⟩ := bcell hb
 have hs : w.heap.size < w1.heap.size := by have := hb.size; simp at this; omega
 clear hz hz' hb
 go_wp2
 refine bodyPost_ret (v := z.v) (by simp [results, Tryz.results96, go_sem, hc]) rfl ⟨by rw [H.out], ?_⟩
 exact set5 H3.out (by omega)
open Go.RowKit
def ov1 (x : E5) : Int := (x.a + 19) / 2251799813685248
def ov2 (x : E5) : Int := (x.b + ov1 x) / 2251799813685248
def ov3 (x : E5) : Int := (x.c + ov2 x) / 2251799813685248
def ov4 (x : E5) : Int := (x.d + ov3 x) / 2251799813685248
def ov5 (x : E5) : Int := (x.e + ov4 x) / 2251799813685248
def le0 (x : E5) : Int := ov5 x * 19
def le1 (x : E5) : Int := (x.a + le0 x) / 2251799813685248
def le2 (x : E5) : Int := (x.b + le1 x) / 2251799813685248
def le3 (x : E5) : Int := (x.c + le2 x) / 2251799813685248
def le4 (x : E5) : Int := (x.d + le3 x) / 2251799813685248
def le5 (x : E5) : Int := (x.e + le4 x) / 2251799813685248
def leastF (x : E5) : E5 := ⟨(x.a + le0 x) % 2251799813685248, (x.b + le1 x) % 2251799813685248, (x.c + le2 x) % 2251799813685248, (x.d + le3 x) % 2251799813685248, (x.e + le4 x) % 2251799813685248⟩
structure LB (x : E5) : Prop where
 o1 : 0 ≤ ov1 x ∧ ov1 x ≤ 1
 o2 : 0 ≤ ov2 x ∧ ov2 x ≤ 1
 o3 : 0 ≤ ov3 x ∧ ov3 x ≤ 1
 o4 : 0 ≤ ov4 x ∧ ov4 x ≤ 1
 o5 : 0 ≤ ov5 x ∧ ov5 x ≤ 1
 l0 : 0 ≤ le0 x ∧ le0 x ≤ 19
 l1 : 0 ≤ le1 x ∧ le1 x ≤ 1
 l2 : 0 ≤ le2 x ∧ le2 x ≤ 1
 l3 : 0 ≤ le3 x ∧ le3 x ≤ 1
 l4 : 0 ≤ le4 x ∧ le4 x ≤ 1
 l5 : 0 ≤ le5 x ∧ le5 x ≤ 1
theorem LB.of {x : E5} (hx : x.Ok) : LB x := by
 obtain ⟨a0, a1, b0, b1, c0, c1, d0, d1, e0, e1⟩ := hx
 have o1 : 0 ≤ ov1 x ∧ ov1 x ≤ 1 := by unfold ov1; omega
 have o2 : 0 ≤ ov2 x ∧ ov2 x ≤ 1 := by unfold ov2; omega
 have o3 : 0 ≤ ov3 x ∧ ov3 x ≤ 1 := by unfold ov3; omega
 have o4 : 0 ≤ ov4 x ∧ ov4 x ≤ 1 := by unfold ov4; omega
 have o5 : 0 ≤ ov5 x ∧ ov5 x ≤ 1 := by unfold ov5; omega
 have l0 : 0 ≤ le0 x ∧ le0 x ≤ 19 := by unfold le0; omega
 have l1 : 0 ≤ le1 x ∧ le1 x ≤ 1 := by unfold le1; omega
 have l2 : 0 ≤ le2 x ∧ le2 x ≤ 1 := by unfold le2; omega
 have l3 : 0 ≤ le3 x ∧ le3 x ≤ 1 := by unfold le3; omega
 have l4 : 0 ≤ le4 x ∧ le4 x ≤ 1 := by unfold le4; omega
 have l5 : 0 ≤ le5 x ∧ le5 x ≤ 1 := by unfold le5; omega
 exact ⟨o1, o2, o3, o4, o5, l0, l1, l2, l3, l4, l5⟩
structure E5.Low (x : E5) : Prop where
 a0 : 0 ≤ x.a
 a1 : x.a < 2251799813685248
 b0 : 0 ≤ x.b
 b1 : x.b < 2251799813685248
 c0 : 0 ≤ x.c
 c1 : x.c < 2251799813685248
 d0 : 0 ≤ x.d
 d1 : x.d < 2251799813685248
 e0 : 0 ≤ x.e
 e1 : x.e < 2251799813685248
theorem leastF_low (x : E5) : (leastF x).Low := by
 constructor <;> simp only [leastF] <;> omega
theorem leastF_n {x : E5} (hx : x.Ok) : (leastF x).n = x.n % Pm := by
 have L := LB.of hx
 obtain ⟨a0, a1, b0, b1, c0, c1, d0, d1, e0, e1⟩ := hx
 have hlow := leastF_low x
 obtain ⟨p0, p1, q0, q1, r0, r1, s0, s1, t0, t1⟩ := hlow
 have e : (leastF x).n = x.n + ov5 x * 19 - 57896044618658097711785492504343953926634992332820282019728792003956564819968 * le5 x := by
  simp only [leastF, E5.n, le5, le4, le3, le2, le1, le0]
  omega
 have hov : 57896044618658097711785492504343953926634992332820282019728792003956564819968 * ov5 x ≤ x.n + 19 ∧ x.n + 19 < 57896044618658097711785492504343953926634992332820282019728792003956564819968 * ov5 x + 57896044618658097711785492504343953926634992332820282019728792003956564819968 := by
  simp only [E5.n, ov5, ov4, ov3, ov2, ov1]
  omega
 have hn0 : 0 ≤ x.n := by simp only [E5.n]; omega
 have hr0 : 0 ≤ (leastF x).n := by rw [E5.n]; omega
 have hr1 : (leastF x).n < 57896044618658097711785492504343953926634992332820282019728792003956564819968 := by rw [E5.n]; omega
 have h5 := L.o5
 have h6 := L.l5
 have hle : le5 x = ov5 x := by omega
 rw [hle] at e
 have hk : x.n = (leastF x).n + ov5 x * Pm := by unfold Pm; omega
 have hn1 : x.n < 115792089237316195423570985008687907853269984665640564039457584007913129639898 := by simp only [E5.n]; omega
 have hlt : (leastF x).n < Pm := by unfold Pm; omega
 rw [hk, Int.add_mul_emod_self_right, Int.emod_eq_of_lt hr0 hlt]
theorem least_any (x : E5) (w : World) (hx : x.Ok) : Calls Tryz.prog 119 #[x.v] w fun r w' => r = .returned (leastF x).v ∧ Below w.heap.size w w' := by
 have L := LB.of hx
 obtain ⟨a0, a1, b0, b1, c0, c1, d0, d1, e0, e1⟩ := hx
 obtain ⟨⟨o10, o11⟩, ⟨o20, o21⟩, ⟨o30, o31⟩, ⟨o40, o41⟩, ⟨o50, o51⟩, ⟨l00, l01⟩, ⟨l10, l11⟩, ⟨l20, l21⟩, ⟨l30, l31⟩, ⟨l40, l41⟩, ⟨l50, l51⟩⟩ := L
 have i0 : ∀ w, (Instr.index 141 (.agg #[.int .u64 x.a, .int .u64 x.b, .int .u64 x.c, .int .u64 x.d, .int .u64 x.e]) (.int .i64 0)).run Tryz.prog w = .ok (.int .u64 x.a) w := fun _ => by kernel_rfl
 have i1 : ∀ w, (Instr.index 141 (.agg #[.int .u64 x.a, .int .u64 x.b, .int .u64 x.c, .int .u64 x.d, .int .u64 x.e]) (.int .i64 1)).run Tryz.prog w = .ok (.int .u64 x.b) w := fun _ => by kernel_rfl
 have i2 : ∀ w, (Instr.index 141 (.agg #[.int .u64 x.a, .int .u64 x.b, .int .u64 x.c, .int .u64 x.d, .int .u64 x.e]) (.int .i64 2)).run Tryz.prog w = .ok (.int .u64 x.c) w := fun _ => by kernel_rfl
 have i3 : ∀ w, (Instr.index 141 (.agg #[.int .u64 x.a, .int .u64 x.b, .int .u64 x.c, .int .u64 x.d, .int .u64 x.e]) (.int .i64 3)).run Tryz.prog w = .ok (.int .u64 x.d) w := fun _ => by kernel_rfl
 have i4 : ∀ w, (Instr.index 141 (.agg #[.int .u64 x.a, .int .u64 x.b, .int .u64 x.c, .int .u64 x.d, .int .u64 x.e]) (.int .i64 4)).run Tryz.prog w = .ok (.int .u64 x.e) w := fun _ => by kernel_rfl
 have g0 := and51 (x := x.a + le0 x) ⟨by omega, by omega⟩
 have g1 := and51 (x := x.b + le1 x) ⟨by omega, by omega⟩
 have g2 := and51 (x := x.c + le2 x) ⟨by omega, by omega⟩
 have g3 := and51 (x := x.d + le3 x) ⟨by omega, by omega⟩
 have g4 := and51 (x := x.e + le4 x) ⟨by omega, by omega⟩
 go_enter Tryz.func119, Tryz.ntmps119
 go_wp2
 refine wp_loop_rounds 6 ?_
 rw [rounds_succ]
 go_wp2
 rw [show (x.a + 19) / 2251799813685248 = ov1 x from rfl]
 rw [rounds_succ]
 go_wp2
 rw [show (x.b + ov1 x) / 2251799813685248 = ov2 x from rfl]
 rw [rounds_succ]
 go_wp2
 rw [show (x.c + ov2 x) / 2251799813685248 = ov3 x from rfl]
 rw [rounds_succ]
 go_wp2
 rw [show (x.d + ov3 x) / 2251799813685248 = ov4 x from rfl]
 rw [rounds_succ]
 go_wp2
 rw [show (x.e + ov4 x) / 2251799813685248 = ov5 x from rfl]
 rw [rounds_succ]
 go_wp2
 rw [show ov5 x * 19 = le0 x from rfl]
 refine wp_loop_rounds 6 ?_
 rw [rounds_succ]
 go_wp2
 rw [show (x.a + le0 x) / 2251799813685248 = le1 x from rfl]
 rw [rounds_succ]
 go_wp2
 rw [show (x.b + le1 x) / 2251799813685248 = le2 x from rfl]
 rw [rounds_succ]
 go_wp2
 rw [show (x.c + le2 x) / 2251799813685248 = le3 x from rfl]
 rw [rounds_succ]
 go_wp2
 rw [show (x.d + le3 x) / 2251799813685248 = le4 x from rfl]
 rw [rounds_succ]
 go_wp2
 rw [show (x.e + le4 x) / 2251799813685248 = le5 x from rfl]
 rw [rounds_succ]
 go_wp2
 exact bodyPost_ret (v := (leastF x).v) (by simp [results, Tryz.results119, go_sem, leastF]) rfl ⟨rfl, (((Below.refl _ _).alloc (Nat.le_refl _) _).alloc (by simp) _).alloc (by simp; omega) _⟩
open Go.RowKit
def bt (s : Yb) (i : Nat) : Int := ((s.data[i]?.getD 0).toNat : Int)
theorem bt_bd (s : Yb) (i : Nat) : 0 ≤ bt s i ∧ bt s i < 256 := by
 unfold bt
 have := (s.data[i]?.getD 0).toNat_lt
 omega
theorem bt_at (s : Yb) (i : Nat) (h : i < s.size) : ((s[i]'h).toNat : Int) = bt s i := by
 unfold bt
 have h' : i < s.data.size := h
 rw [Array.getElem?_eq_getElem h']
 rfl
def sw (s : Yb) (j : Nat) : Nat → Int
 | 0 => 0
 | r + 1 => sw s j r + bt s (8 * j + r) * 256 ^ r
theorem sw_bd (s : Yb) (j r : Nat) : 0 ≤ sw s j r ∧ sw s j r < 256 ^ r := by
 induction r with
 | zero => simp [sw]
 | succ r ih =>
  have hb := bt_bd s (8 * j + r)
  have hp : (0 : Int) < 256 ^ r := Int.pow_pos (by decide)
  have h1 : bt s (8 * j + r) * 256 ^ r ≤ 255 * 256 ^ r := Int.mul_le_mul_of_nonneg_right (by omega) (by omega)
  have h2 : 0 ≤ bt s (8 * j + r) * 256 ^ r := Int.mul_nonneg hb.1 (by omega)
  have h3 : (256 : Int) ^ (r + 1) = 256 * 256 ^ r := by rw [Int.pow_succ, Int.mul_comm]
  simp only [sw]
  omega
def swk (s : Yb) (k j : Nat) : Int := sw s j (min (k - 8 * j) 8)
open Go.RowKit
def numberF (a b c d : Int) : E5 := car (a % 2251799813685248) ((a / 2251799813685248 + b * 8192) % 2251799813685248) ((b / 274877906944 + c * 67108864) % 2251799813685248) ((c / 33554432 + d * 549755813888) % 2251799813685248) (d / 4096)
theorem part1 {a b : Int} (ha : W64 a) (_hb : W64 b) : bits BinOp.and IntKind.u64 (bits BinOp.or IntKind.u64 (a / 2251799813685248) (IntKind.u64.wrap (b * 8192))) 2251799813685247 = (a / 2251799813685248 + b * 8192) % 2251799813685248 := by
 unfold W64 at *
 rw [IntKind.wrap_u64, or_join' 13 8192 (by decide) ⟨by omega, by omega⟩ ⟨by omega, by omega⟩ (by omega) (by omega), and51 ⟨by omega, by omega⟩]
 omega
theorem part2 {a b : Int} (ha : W64 a) (_hb : W64 b) : bits BinOp.and IntKind.u64 (bits BinOp.or IntKind.u64 (a / 274877906944) (IntKind.u64.wrap (b * 67108864))) 2251799813685247 = (a / 274877906944 + b * 67108864) % 2251799813685248 := by
 unfold W64 at *
 rw [IntKind.wrap_u64, or_join' 26 67108864 (by decide) ⟨by omega, by omega⟩ ⟨by omega, by omega⟩ (by omega) (by omega), and51 ⟨by omega, by omega⟩]
 omega
theorem part3 {a b : Int} (ha : W64 a) (_hb : W64 b) : bits BinOp.and IntKind.u64 (bits BinOp.or IntKind.u64 (a / 33554432) (IntKind.u64.wrap (b * 549755813888))) 2251799813685247 = (a / 33554432 + b * 549755813888) % 2251799813685248 := by
 unfold W64 at *
 rw [IntKind.wrap_u64, or_join' 39 549755813888 (by decide) ⟨by omega, by omega⟩ ⟨by omega, by omega⟩ (by omega) (by omega), and51 ⟨by omega, by omega⟩]
 omega
theorem numberF_ok {a b c d : Int} (_ha : W64 a) (_hb : W64 b) (_hc : W64 c) (hd : W64 d) : (numberF a b c d).Ok := by
 unfold W64 at *
 exact car_ok ⟨by omega, by omega⟩ ⟨by omega, by omega⟩ ⟨by omega, by omega⟩ ⟨by omega, by omega⟩ ⟨by omega, by omega⟩
theorem numberF_n {a b c d : Int} (ha : W64 a) (hb : W64 b) (hc : W64 c) (_hd : W64 d) : Cg (numberF a b c d).n (a + 18446744073709551616 * b + 340282366920938463463374607431768211456 * c + 6277101735386680763835789423207666416102355444464034512896 * d) := by
 refine (car_n _ _ _ _ _).trans (Cg.of_eq ?_)
 unfold W64 at *
 simp only [E5.n]
 omega
theorem number_any (a b c d : Int) (w : World) (ha : W64 a) (hb : W64 b) (hc : W64 c) (hd : W64 d) : Calls Tryz.prog 147 #[.agg #[.int .u64 a, .int .u64 b, .int .u64 c, .int .u64 d]] w fun r w' => r = .returned (numberF a b c d).v ∧ Below w.heap.size w w' := by
 have e0 := and51 ha
 have e1 := part1 ha hb
 have e2 := part2 hb hc
 have e3 := part3 hc hd
 have HE := hide (show numberF a b c d = car (a % 2251799813685248) ((a / 2251799813685248 + b * 8192) % 2251799813685248) ((b / 274877906944 + c * 67108864) % 2251799813685248) ((c / 33554432 + d * 549755813888) % 2251799813685248) (d / 4096) from rfl)
 have q0 : W64 (a % 2251799813685248) := ⟨by omega, by omega⟩
 have q1 : W64 ((a / 2251799813685248 + b * 8192) % 2251799813685248) := ⟨by omega, by omega⟩
 have q2 : W64 ((b / 274877906944 + c * 67108864) % 2251799813685248) := ⟨by omega, by omega⟩
 have q3 : W64 ((c / 33554432 + d * 549755813888) % 2251799813685248) := ⟨by omega, by omega⟩
 have q4 : W64 (d / 4096) := by unfold W64 at *; exact ⟨by omega, by omega⟩
 go_enter Tryz.func147, Tryz.ntmps147
 go_wp2_with fail
 have R := Out.start1 w (.cells #[.int .u64 a, .int .u64 b, .int .u64 c, .int .u64 d] 173)
 refine (carried_any _ _ _ _ _ _ q0 q1 q2 q3 q4).mono ?_
 rintro _ w1 ⟨rfl, hb⟩
 replace R := R.keep hb
 rw [← HE.out]
 clear HE
 generalize hz : numberF a b c d = z
 have HE := hide hz
 clear hz
 clear hb q0 q1 q2 q3 q4 e0 e1 e2 e3
 obtain ⟨old, ge, rs, rf, r0, r1, r2, r3, r4⟩ := R
 have O := hide old
 clear old
 go_wp2
 refine bodyPost_ret (v := z.v) (by simp [results, Tryz.results147, go_sem, r0, r1, r2, r3, r4]) rfl ⟨by rw [HE.out], ?_⟩
 exact five O.out ge
def val (s : Yb) : Int := sw s 0 8 + 18446744073709551616 * sw s 1 8 + 340282366920938463463374607431768211456 * sw s 2 8 + 6277101735386680763835789423207666416102355444464034512896 * sw s 3 8
def ofF (s : Yb) : E5 := numberF (sw s 0 8) (sw s 1 8) (sw s 2 8) (sw s 3 8)
theorem sw64 (s : Yb) (j : Nat) : W64 (sw s j 8) := by
 have h := sw_bd s j 8
 have e : (256 : Int) ^ 8 = 18446744073709551616 := by decide
 rw [e] at h
 exact h
theorem ofF_ok (s : Yb) : (ofF s).Ok := numberF_ok (sw64 s 0) (sw64 s 1) (sw64 s 2) (sw64 s 3)
theorem ofF_n (s : Yb) : Cg (ofF s).n (val s) := numberF_n (sw64 s 0) (sw64 s 1) (sw64 s 2) (sw64 s 3)
open Go.RowKit
def pt (s : Yb) (k : Nat) : Nat → Int := fun i => (if 2 * i < k then bt s (2 * i) else 0) + (if 2 * i + 1 < k then bt s (2 * i + 1) * 256 else 0)
theorem ptor0 (s : Yb) (i : Nat) : bits BinOp.or IntKind.u64 0 (bt s i) = bt s i := by
 have hb := bt_bd s i
 rw [or_join 8 256 (by decide) ⟨by decide, by decide⟩ ⟨hb.1, by omega⟩ (by decide) (by omega)]
 omega
theorem ptor1 (s : Yb) (i j : Nat) : bits BinOp.or IntKind.u64 (bt s i) (bt s j * 256) = bt s i + bt s j * 256 := by
 have hb := bt_bd s i
 have hc := bt_bd s j
 exact or_join' 8 256 (by decide) ⟨hb.1, by omega⟩ ⟨by omega, by omega⟩ (by omega) (by omega)
theorem pt_dig (s : Yb) (k : Nat) : Dig (pt s k) 16 := fun i _ => by
 have hb := bt_bd s (2 * i)
 have hc := bt_bd s (2 * i + 1)
 unfold pt
 split <;> split <;> omega
theorem pt_even (s : Yb) (j i : Nat) : upd (pt s (2 * j)) j (bt s (2 * j)) i = pt s (2 * j + 1) i := by
 unfold upd pt
 by_cases h : i = j
 ·subst h
  simp
 ·rw [if_neg h]
  congr 1
  ·by_cases h2 : 2 * i < 2 * j
   ·rw [if_pos h2, if_pos (by omega)]
   ·rw [if_neg h2, if_neg (by omega)]
  ·by_cases h2 : 2 * i + 1 < 2 * j
   ·rw [if_pos h2, if_pos (by omega)]
   ·rw [if_neg h2, if_neg (by omega)]
theorem pt_odd (s : Yb) (j i : Nat) : upd (pt s (2 * j + 1)) j (bt s (2 * j) + bt s (2 * j + 1) * 256) i = pt s (2 * j + 1 + 1) i := by
 unfold upd pt
 by_cases h : i = j
 ·subst h
  simp
  intro h
  omega
 ·rw [if_neg h]
  congr 1
  ·by_cases h2 : 2 * i < 2 * j + 1
   ·rw [if_pos h2, if_pos (by omega)]
   ·rw [if_neg h2, if_neg (by omega)]
  ·by_cases h2 : 2 * i + 1 < 2 * j + 1
   ·rw [if_pos h2, if_pos (by omega)]
   ·rw [if_neg h2, if_neg (by omega)]
theorem pt_S (s : Yb) : S (pt s 32) 16 = val s := by
 simp [S, pt, val, sw]
 omega
open Go.RowKit
theorem wid_S (f : NI) : S (wid f 16) 32 = S f 16 := by
 rw [S_upper_zero (wid f 16) fun i h _ => by unfold wid; rw [if_neg (by omega)]]
 exact S_congr fun i hi => by unfold wid; rw [if_pos hi]
theorem wid_48 {f : NI} (h : Dig f 16) : B48 (wid f 16) := ⟨fun i _ => by
 unfold wid
 by_cases hi : i < 16
 ·rw [if_pos hi]
  have := h i hi
  omega
 ·rw [if_neg hi]
  omega⟩
theorem and16u {x : Int} (h0 : 0 ≤ x) (h1 : x < 4294967296) : bits .and .u32 x 65535 = x % 65536 := by
 rw [u32_and x _ h0 h1 (by decide) (by decide)]
 have e : (65535 : Int).toNat = 65535 := by decide
 rw [e, nat_mask16]
 omega
theorem small_arr {n : Int} (h0 : 0 ≤ n) (h1 : n < 4294967296) : arr 16 (d16 n) = #[.int .u64 (n % 65536), .int .u64 (n / 65536), .int .u64 0, .int .u64 0, .int .u64 0, .int .u64 0, .int .u64 0, .int .u64 0, .int .u64 0, .int .u64 0, .int .u64 0, .int .u64 0, .int .u64 0, .int .u64 0, .int .u64 0, .int .u64 0] := by
 have e : arr 16 (d16 n) = arr 16 (fun i => if i = 0 then n % 65536 else if i = 1 then n / 65536 else 0) := by
  refine arr_congr fun i hi => ?_
  unfold d16
  by_cases i0 : i = 0
  ·subst i0; simp
  ·by_cases i1 : i = 1
   ·subst i1; simp; omega
   ·rw [if_neg i0, if_neg i1]
    have hp : (4294967296 : Int) ≤ 65536 ^ i := by
     obtain ⟨j, rfl⟩ : ∃ j, i = j + 2 := ⟨i - 2, by omega⟩
     rw [Int.pow_add]
     have := p16 j
     have e2 : (65536 : Int) ^ 2 = 4294967296 := by decide
     rw [e2]
     omega
    rw [Int.ediv_eq_zero_of_lt h0 (by omega)]
    decide
 rw [e]
 rfl
theorem rsmall_any (n : Int) (w : World) (h0 : 0 ≤ n) (h1 : n < 4294967296) : Cs 56 #[.int .u32 n] w (.agg (arr 16 (d16 n))) := by
 have e := and16u h0 h1
 have HA := hide (small_arr h0 h1)
 go_enter Tryz.func56, Tryz.ntmps56
 go_wp2
 refine bodyPost_ret (v := .agg (arr 16 (d16 n))) ?_ rfl ⟨rfl, (Below.refl _ _).alloc (Nat.le_refl _) _⟩
 rw [HA.out]
 simp [results, Tryz.results56, go_sem]
open Go.RowKit
def bs (ns : List Int) : ByteArray := ⟨(ns.map fun n => UInt8.ofNat n.toNat).toArray⟩
theorem bs_fold (ns : List Int) : ∀ s : Yb, ns.foldl (fun r n => r.push (UInt8.ofNat n.toNat)) s = ⟨s.data ++ (ns.map fun n => UInt8.ofNat n.toNat).toArray⟩ := by
 induction ns with
 | nil => intro s; simp
 | cons n ns ih =>
  intro s
  rw [List.foldl_cons, ih]
  simp [ByteArray.push]
theorem conv_bytes (W : World) (g : Nat) (T : TypeId) (ns : List Int) (l cap : Nat) (fr : Nat × Nat) (hg : W.heap[g]? = some (.cells (ns.map (Value.int .u8)).toArray T fr)) (hl : ns.length = l) :
  (convert 44 9 (.slice (some ⟨g, 0, none⟩) l cap)).run Tryz.prog W = .ok (.string (bs ns)) W := by
 subst hl
 rw [run_convert_bytes_string W 44 9 5 (some ⟨g, 0, none⟩) ns.length cap Tryz.underlying44 Tryz.underlying5 Tryz.underlying9]
 have h := run_loadCells_list (P := Tryz.prog) W ⟨g, 0, none⟩ (ns.map (Value.int .u8)) (fun j v hv => by
  have hadd : (⟨g, 0, none⟩ : Addr).add j = ⟨g, j, none⟩ := by unfold Addr.add; split <;> simp_all
  rw [hadd, cell_of_row W g j _ T fr hg]
  simpa using hv)
 rw [List.length_map] at h
 have he : ByteArray.empty.data = #[] := rfl
 rw [run_bytesToString W _ ns.length cap ns h, bs_fold, he]
 simp [bs]
def digs (a : Int) : List Int := [a % 256, a / 256 % 256, a / 65536 % 256, a / 16777216 % 256, a / 4294967296 % 256, a / 1099511627776 % 256, a / 281474976710656 % 256, a / 72057594037927936 % 256]
def lebytes (n : Int) : ByteArray := bs (digs (n % 18446744073709551616) ++ digs (n / 18446744073709551616 % 18446744073709551616) ++ digs (n / 340282366920938463463374607431768211456 % 18446744073709551616) ++ digs (n / 6277101735386680763835789423207666416102355444464034512896 % 18446744073709551616))
theorem text_any (a b c d : Int) (w : World) : Cs 121 #[.agg #[.int .u64 a, .int .u64 b, .int .u64 c, .int .u64 d]] w (.string (bs (digs a ++ digs b ++ digs c ++ digs d))) := by
 go_enter Tryz.func121, Tryz.ntmps121
 go_wp2
 refine wp_loop_rounds 33 ?_
 iterate 33 (rw [rounds_succ]; go_wp2)
 have hcv : (convert 44 9 (.slice (some ⟨w.heap.size + 1, 0, none⟩) 32 32)).run Tryz.prog ((w.alloc (.cells #[.int .u64 a, .int .u64 b, .int .u64 c, .int .u64 d] 173)).alloc (.cells #[.int .u8 (a % 256), .int .u8 (a / 256 % 256), .int .u8 (a / 65536 % 256), .int .u8 (a / 16777216 % 256), .int .u8 (a / 4294967296 % 256), .int .u8 (a / 1099511627776 % 256), .int .u8 (a / 281474976710656 % 256), .int .u8 (a / 72057594037927936 % 256), .int .u8 (b % 256), .int .u8 (b / 256 % 256), .int .u8 (b / 65536 % 256), .int .u8 (b / 16777216 % 256), .int .u8 (b / 4294967296 % 256), .int .u8 (b / 1099511627776 % 256), .int .u8 (b / 281474976710656 % 256), .int .u8 (b / 72057594037927936 % 256), .int .u8 (c % 256), .int .u8 (c / 256 % 256), .int .u8 (c / 65536 % 256), .int .u8 (c / 16777216 % 256), .int .u8 (c / 4294967296 % 256), .int .u8 (c / 1099511627776 % 256), .int .u8 (c / 281474976710656 % 256), .int .u8 (c / 72057594037927936 % 256), .int .u8 (d % 256), .int .u8 (d / 256 % 256), .int .u8 (d / 65536 % 256), .int .u8 (d / 16777216 % 256), .int .u8 (d / 4294967296 % 256), .int .u8 (d / 1099511627776 % 256), .int .u8 (d / 281474976710656 % 256), .int .u8 (d / 72057594037927936 % 256)] 216)) = .ok (.string (bs (digs a ++ digs b ++ digs c ++ digs d))) _ := conv_bytes _ (w.heap.size + 1) 216 (digs a ++ digs b ++ digs c ++ digs d) 32 32 (0, 0) (heap_alloc2_new w _ _) rfl
 rw [hcv]
 clear hcv
 generalize hB : bs (digs a ++ digs b ++ digs c ++ digs d) = B
 have HB := hide hB
 clear hB
 go_wp2
 go_ret
 exact ⟨by rw [HB.out]; rfl, ((Below.refl _ _).alloc (Nat.le_refl _) _).alloc (by simp) _⟩
theorem wordsR0 {y : E5} (h : y.Low) : bits BinOp.or IntKind.u64 y.a (IntKind.u64.wrap (y.b * 2251799813685248)) = y.n % 18446744073709551616 := by
 obtain ⟨a0, a1, b0, b1, c0, c1, d0, d1, e0, e1⟩ := h
 rw [IntKind.wrap_u64, or_join' 51 2251799813685248 (by decide) ⟨by omega, by omega⟩ ⟨by omega, by omega⟩ (by omega) (by omega)]
 simp only [E5.n]
 omega
theorem wordsR1 {y : E5} (h : y.Low) : bits BinOp.or IntKind.u64 (y.b / 8192) (IntKind.u64.wrap (y.c * 274877906944)) = y.n / 18446744073709551616 % 18446744073709551616 := by
 obtain ⟨a0, a1, b0, b1, c0, c1, d0, d1, e0, e1⟩ := h
 rw [IntKind.wrap_u64, or_join' 38 274877906944 (by decide) ⟨by omega, by omega⟩ ⟨by omega, by omega⟩ (by omega) (by omega)]
 simp only [E5.n]
 omega
theorem wordsR2 {y : E5} (h : y.Low) : bits BinOp.or IntKind.u64 (y.c / 67108864) (IntKind.u64.wrap (y.d * 33554432)) = y.n / 340282366920938463463374607431768211456 % 18446744073709551616 := by
 obtain ⟨a0, a1, b0, b1, c0, c1, d0, d1, e0, e1⟩ := h
 rw [IntKind.wrap_u64, or_join' 25 33554432 (by decide) ⟨by omega, by omega⟩ ⟨by omega, by omega⟩ (by omega) (by omega)]
 simp only [E5.n]
 omega
theorem wordsR3 {y : E5} (h : y.Low) : bits BinOp.or IntKind.u64 (y.d / 549755813888) (IntKind.u64.wrap (y.e * 4096)) = y.n / 6277101735386680763835789423207666416102355444464034512896 % 18446744073709551616 := by
 obtain ⟨a0, a1, b0, b1, c0, c1, d0, d1, e0, e1⟩ := h
 rw [IntKind.wrap_u64, or_join' 12 4096 (by decide) ⟨by omega, by omega⟩ ⟨by omega, by omega⟩ (by omega) (by omega)]
 simp only [E5.n]
 omega
theorem set4 {B g : Nat} {w w1 : World} (h : Below B w w1) (hg : B ≤ g) {u0 u1 u2 u3 : Value} :
  Below B w ((((w1.setCell ⟨g, 0, none⟩ u0).setCell ⟨g, 1, none⟩ u1).setCell ⟨g, 2, none⟩ u2).setCell ⟨g, 3, none⟩ u3) :=
 (((h.setCell (p := ⟨g, 0, none⟩) hg u0).setCell (p := ⟨g, 1, none⟩) hg u1).setCell (p := ⟨g, 2, none⟩) hg u2).setCell (p := ⟨g, 3, none⟩) hg u3
abbrev w4 (n : Int) : Value := .agg #[.int .u64 (n % 18446744073709551616), .int .u64 (n / 18446744073709551616 % 18446744073709551616), .int .u64 (n / 340282366920938463463374607431768211456 % 18446744073709551616), .int .u64 (n / 6277101735386680763835789423207666416102355444464034512896 % 18446744073709551616)]
theorem words_any (x : E5) (w : World) (hx : x.Ok) : Cs 120 #[x.v] w (w4 (x.n % Pm)) := by
 go_enter Tryz.func120, Tryz.ntmps120
 go_wp2_with fail
 refine (least_any x _ hx).mono ?_
 rintro _ w1 ⟨rfl, hb⟩
 have HN := hide (leastF_n hx)
 have hl := leastF_low x
 have e0 := wordsR0 hl
 have e1 := wordsR1 hl
 have e2 := wordsR2 hl
 have e3 := wordsR3 hl
 rw [leastF_n hx] at e0 e1 e2 e3
 generalize leastF x = y at *
 have H3 := hide (below2 hb)
 obtain ⟨hc, hf⟩ := bcell hb
 have hs : w.heap.size + 1 < w1.heap.size := by have := hb.size; simp at this; omega
 clear hb hl
 go_wp2
 refine bodyPost_ret (v := w4 (x.n % Pm)) (by simp [results, Tryz.results120, go_sem, hc, hs]) rfl ⟨rfl, ?_⟩
 exact (set4 (B := w.heap.size) (g := w.heap.size + 1) H3.out (by omega)).alloc (by simp; omega) _
theorem bytes_any (x : E5) (w : World) (hx : x.Ok) : Cs 95 #[x.v] w (.string (lebytes (x.n % Pm))) := by
 go_enter Tryz.func95, Tryz.ntmps95
 go_wp2_with fail
 refine (words_any x _ hx).mono ?_
 rintro _ w1 ⟨rfl, hb⟩
 have H3 := below1 hb
 clear hb
 go_wp2_with fail
 refine (text_any _ _ _ _ _).mono ?_
 rintro _ w2 ⟨rfl, hb⟩
 have H4 := H3.trans (hb.mono H3.size)
 clear hb H3
 rw [show bs (digs (x.n % Pm % 18446744073709551616) ++ digs (x.n % Pm / 18446744073709551616 % 18446744073709551616) ++ digs (x.n % Pm / 340282366920938463463374607431768211456 % 18446744073709551616) ++ digs (x.n % Pm / 6277101735386680763835789423207666416102355444464034512896 % 18446744073709551616)) = lebytes (x.n % Pm) from rfl]
 go_wp2
 go_ret
 exact ⟨rfl, H4⟩
open Go.RowKit
def by16 (f : NI) (i : Nat) : Int := f (i / 2) / 256 ^ (i % 2) % 256
def rb (f : NI) (k : Nat) : List Int := (List.range 32).map fun i => if i < k then by16 f i else 0
theorem rb_len (f : NI) (k : Nat) : (rb f k).length = 32 := by simp [rb]
end Go.Proofs.YtiahdbibeleakaaGreatDoor.Mon
namespace Go.Proofs.YtiahdbibeleakaaGreatDoor
open Go.RowKit
section
variable {P : Program} {ops : Array Oper} {rest : List Oper} {o : Oper} {a : Act} {w W : World} {c : Ctx} {L : List Blk} {Q : Exit → Act → World → Prop} {R : Act → Prop} {n g T : Nat} {F : NV} {ty : TypeId} {x : Operand}
theorem pB (M : Mem c L w) (d : Tmp) (i : Nat) (h : PL P ops Q rest (a.put (some d) (.agg (av n F))) w) (hw : Region.wanted o (yielded ops a.tmps) = true := by first | exact want_no rfl | kernel_rfl) (hd : o.dst = some d := by exact rfl) (ho : o.op = .load ty x := by exact rfl) (hi : L[i]? = some ⟨g, .cells (av n F) T⟩ := by exact rfl) (hx : Ev a x (.pointer (some ⟨g, 0, none⟩)) := by exact ⟨by kernel_rfl⟩) (hu : (P.underlying ty).map TypeDesc.isRow = some true := by kernel_rfl) (hz : (P.info? ty).map (·.size) = some n := by kernel_rfl) : PL P ops Q (o :: rest) a w := pA M d i n F h hw hd ho hi hx hu hz
theorem kB (M : Mem c L W) (d : Tmp) (i : Nat) (h : KL P ops W R rest (a.put (some d) (.agg (av n F)))) (hw : Region.wanted o (yielded ops a.tmps) = true := by first | exact want_no rfl | kernel_rfl) (hd : o.dst = some d := by exact rfl) (ho : o.op = .load ty x := by exact rfl) (hi : L[i]? = some ⟨g, .cells (av n F) T⟩ := by exact rfl) (hx : Ev a x (.pointer (some ⟨g, 0, none⟩)) := by exact ⟨by kernel_rfl⟩) (hu : (P.underlying ty).map TypeDesc.isRow = some true := by kernel_rfl) (hz : (P.info? ty).map (·.size) = some n := by kernel_rfl) : KL P ops W R (o :: rest) a := kA M d i n F h hw hd ho hi hx hu hz
end
section
variable {P : Program} {ops : Array Oper} {o : Oper} {a : Act} {w : World} {Q : Exit → Act → World → Prop} {n fuel : Nat} {listed : Array Bool}
theorem qL {c : Ctx} {Ls : List Blk} (M : Mem c Ls w) (i : Nat) (d : Tmp) (j off k : Nat) (F' : NV) {g m T : Nat} {F : NV} {ty : TypeId} {x : Operand} (hp : ∀ j, j < k → F (off + j) = F' j) (h : HL P ops Q (Mem c Ls) n fuel (listed.setIfInBounds i true) (a.put (some d) (.agg (av k F'))) w) (hj : Ls[j]? = some ⟨g, .cells (av m F) T⟩ := by exact rfl) (hi : ops.toList[i]? = some o := by exact rfl) (hin : i < n := by decide) (hf : Region.free .any ops listed i = true := by kernel_rfl) (hr : (Region.ready .any ops listed).contains i = true := by kernel_rfl) (hw : Region.wanted o (yielded ops a.tmps) = true := by first | exact want_no rfl | kernel_rfl) (hd : o.dst = some d := by exact rfl) (ho : o.op = .load ty x := by exact rfl) (hx : Ev a x (.pointer (some ⟨g, off, none⟩)) := by exact ⟨by kernel_rfl⟩) (hk : off + k ≤ m := by decide) (hu : (P.underlying ty).map TypeDesc.isRow = some true := by kernel_rfl) (hz : (P.info? ty).map (·.size) = some k := by kernel_rfl) : HL P ops Q (Mem c Ls) n (fuel + 1) listed a w := by
 obtain ⟨t, h1, h2⟩ := isRow_of hu
 exact hl_load M i hi hin hf hr hw (some d) hd ty x ho j g off hx.out m T F hj k F' hp hk t h1 h2 hz h
theorem qA {c : Ctx} {Ls : List Blk} (M : Mem c Ls w) (i : Nat) (d : Tmp) (j m : Nat) (F : NV) {g T : Nat} {ty : TypeId} {x : Operand} (h : HL P ops Q (Mem c Ls) n fuel (listed.setIfInBounds i true) (a.put (some d) (.agg (av m F))) w) (hj : Ls[j]? = some ⟨g, .cells (av m F) T⟩ := by exact rfl) (hi : ops.toList[i]? = some o := by exact rfl) (hin : i < n := by decide) (hf : Region.free .any ops listed i = true := by kernel_rfl) (hr : (Region.ready .any ops listed).contains i = true := by kernel_rfl) (hw : Region.wanted o (yielded ops a.tmps) = true := by first | exact want_no rfl | kernel_rfl) (hd : o.dst = some d := by exact rfl) (ho : o.op = .load ty x := by exact rfl) (hx : Ev a x (.pointer (some ⟨g, 0, none⟩)) := by exact ⟨by kernel_rfl⟩) (hu : (P.underlying ty).map TypeDesc.isRow = some true := by kernel_rfl) (hz : (P.info? ty).map (·.size) = some m := by kernel_rfl) : HL P ops Q (Mem c Ls) n (fuel + 1) listed a w :=
 qL M i d j 0 m F (fun j _ => by rw [Nat.zero_add]) h hj hi hin hf hr hw hd ho hx (by omega) hu hz
end
theorem quo2 (j : Nat) (hj : j < 1000000) : IntKind.wrap .i64 ((j : Int).tdiv 2) = ((j / 2 : Nat) : Int) := by
 rw [Int.tdiv_eq_ediv_of_nonneg (by omega), wrap64 (by omega) (by omega)]
 omega
theorem run_remL {P : Program} {a : Act} {o : Oper} (t rt : TypeId) (x y : Operand) (ho : o.op = .binOp .rem t x y rt) (m d : Nat) (hx : a.eval x = .int .i64 (m : Int)) (hy : a.eval y = .int .i64 (d : Int)) (hd : 0 < d) (w : World) :
  (execOp a.eval o).run P w = .ok (.value (.int .i64 ((m % d : Nat) : Int))) w := by
 have h0 : ¬ d = 0 := by omega
 have e : Int.tmod (m : Int) (d : Int) = (m : Int) % (d : Int) := rfl
 unfold execOp
 simp [ho, hx, hy, eqGuard, binOp, Op.intDiv, h0, e]
theorem wrapL {x : Int} (h0 : 0 ≤ x) (h1 : x < 18446744073709551616) : IntKind.wrap .u64 x = x := by
 unfold IntKind.wrap
 simp [IntKind.bits, IntKind.signed]
 omega
theorem pt_nx (s : Yb) {j : Nat} : upd (Mon.pt s j) (j / 2) (uo (Mon.pt s j (j / 2)) (sl (cv .u64 (bt s j)) (8 * (j % 2)))) = Mon.pt s (j + 1) := by
 have hb := bt_nn s j
 have e : cv .u64 (bt s j) = bt s j := wrapL hb.1 (by omega)
 rw [e]
 unfold sl uo
 obtain ⟨m, hm⟩ : ∃ m, j = 2 * m ∨ j = 2 * m + 1 := ⟨j / 2, by omega⟩
 funext i
 rcases hm with rfl | rfl
 ·rw [show 2 * m / 2 = m by omega, show 8 * (2 * m % 2) = 0 by omega, show Mon.pt s (2 * m) m = 0 by unfold Mon.pt; rw [if_neg (by omega), if_neg (by omega)]; rfl, Int.pow_zero, Int.mul_one, wrapL hb.1 (by omega)]
  exact (congrArg (fun v => upd (Mon.pt s (2 * m)) m v i) (Mon.ptor0 s (2 * m))).trans (Mon.pt_even s m i)
 ·rw [show (2 * m + 1) / 2 = m by omega, show 8 * ((2 * m + 1) % 2) = 8 by omega, show Mon.pt s (2 * m + 1) m = bt s (2 * m) by unfold Mon.pt; rw [if_pos (by omega), if_neg (by omega)]; exact Int.add_zero _, show IntKind.wrap .u64 (bt s (2 * m + 1) * 2 ^ 8) = bt s (2 * m + 1) * 256 from wrapL (x := bt s (2 * m + 1) * 256) (by omega) (by omega)]
  exact (congrArg (fun v => upd (Mon.pt s (2 * m + 1)) m v i) (Mon.ptor1 s (2 * m) (2 * m + 1))).trans (Mon.pt_odd s m i)
theorem pt_z (s : Yb) : Mon.pt s 0 = fun _ => 0 := by
 funext i
 unfold Mon.pt
 rw [if_neg (by omega), if_neg (by omega)]
 rfl
def rbF (f : NI) (k : Nat) : Nat → Int := fun i => if i < k then Mon.by16 f i else 0
theorem rb_nx (f : NI) (j : Nat) (h : 0 ≤ f (j / 2)) : upd (rbF f j) j (cv .u8 (sr (f (j / 2)) (8 * (j % 2)))) = rbF f (j + 1) := by
 have e : cv .u8 (sr (f (j / 2)) (8 * (j % 2))) = Mon.by16 f j := by
  have e1 : sr (f (j / 2)) (8 * (j % 2)) = f (j / 2) / 256 ^ (j % 2) := by
   unfold sr
   rw [Int.fdiv_eq_ediv_of_nonneg _ (Int.le_of_lt (Int.pow_pos (by decide)))]
   rcases (by omega : j % 2 = 0 ∨ j % 2 = 1) with h2 | h2 <;> rw [h2] <;> rfl
  have h3 : 0 ≤ f (j / 2) / 256 ^ (j % 2) := Int.ediv_nonneg h (Int.le_of_lt (Int.pow_pos (by decide)))
  rw [e1]
  unfold cv Mon.by16 IntKind.wrap
  simp [IntKind.bits, IntKind.signed]
 rw [e]
 funext i
 unfold upd rbF
 by_cases h1 : i = j
 ·subst h1
  rw [if_pos rfl, if_pos (by omega)]
 ·rw [if_neg h1]
  by_cases h2 : i < j
  ·rw [if_pos h2, if_pos (by omega)]
  ·rw [if_neg h2, if_neg (by omega)]
theorem l_parts (s : Yb) (hs : s.size = 32) (w : World) (hL : Laid w)  : Cs 86 #[.string s] w (.agg (av 16 (w64 (Mon.pt s 32)))) := by
 go_enter Tryz.func86, Tryz.ntmps86
 have M := Mem.start hL
 refine sR <| pN M 2 (.cells (av 16 (w64 (fun _ => 0))) 108) fun g1 u1 M => ?_
 replace M := M.nf
 refine nT <| sR <| pN M 3 (.cells (av 16 (w64 (fun _ => 0))) 108) fun g2 u2 M => ?_
 replace M := M.nf
 refine nT <| wp_seq <| sq <| wp_block ?_
 refine au_loop (fun j a w' => ∃ v1 : NV, a = (fm ([.string s, v1 1, .pointer (some ⟨g1, 0, none⟩), .pointer (some ⟨g2, 0, none⟩), .int .i64 (j : Int)] ++ vr v1 5 28)) ∧ Mem ⟨w, []⟩ [⟨g1, .cells (av 16 (w64 (fun _ => 0))) 108⟩, ⟨g2, .cells (av 16 (w64 (Mon.pt s j))) 108⟩] w') 32 (exS (by rw [pt_z]; exact M)) ?_ ?_
 ·intro j a u0 hj hI
  obtain ⟨v1, rfl, M⟩ := hI
  refine wp_seq <| sR <| rV 1 <| ZT 6 ((j : Int) < 32) <| rV 4 <| ZT 11 ((j : Int) < (s.size : Int)) <| rV 1 <| nT <| cT <| wp_skip <| au_then <| wp_seq <| wp_block <| rgh M [⟨g1, .cells (av 16 (w64 (fun _ => 0))) 108⟩, ⟨g2, .cells (av 16 (w64 (Mon.pt s j))) 108⟩] 17 fun u3 M => ?_
  replace M := M.nf
  refine qV M 0 15 (.int .i64 (j : Int)) <| qH M 1 16 (.int .i64 ((j / 2 : Nat) : Int)) (fun w _ => (fun w => Eq.trans (b := .ok (.value (.int .i64 (IntKind.wrap .i64 ((j : Int).tdiv 2)))) w) (by kernel_rfl) (by rw [quo2 j (by omega)])) w) <| qV M 2 17 (.int .i64 (j : Int)) <| qH M 3 18 (.int .i64 ((j / 2 : Nat) : Int)) (fun w _ => (fun w => Eq.trans (b := .ok (.value (.int .i64 (IntKind.wrap .i64 ((j : Int).tdiv 2)))) w) (by kernel_rfl) (by rw [quo2 j (by omega)])) w) <| qH M 4 19 (.pointer (some ⟨g2, ((j / 2 : Nat)), none⟩)) (fun w _ => (run_ix1 108 16 33 Tryz.underlying108 inz33 _ _ rfl g2 (by kernel_rfl) .i64 ((j / 2 : Nat)) (by kernel_rfl) (by omega)) w) <| qE M 5 20 1 ((j / 2 : Nat)) <| qV M 6 21 (.string s) <| qV M 7 22 (.int .i64 (j : Int)) <| qH M 8 23 (.int .u8 (bt s j)) (fun w _ => (run_ixS 9 Tryz.underlying9 _ _ rfl s (by kernel_rfl) .i64 j (by kernel_rfl) (by omega)) w) <| qV M 9 24 (.int .u64 (cv .u64 (bt s j))) <| qV M 10 25 (.int .i64 (j : Int)) <| qH M 11 26 (.int .i64 ((j % 2 : Nat) : Int)) (fun w _ => (run_remL 3 3 _ _ rfl j 2 (by kernel_rfl) (by kernel_rfl) (by decide)) w) ?_
  refine qH M 12 27 (.int .i64 ((8 * (j % 2) : Nat) : Int)) (fun w _ => (fun w => Eq.trans (b := .ok (.value (.int .i64 (IntKind.wrap .i64 ((8 : Int) * ((j % 2 : Nat) : Int))))) w) (by kernel_rfl) (by rw [wrap64 (by omega) (by omega)]; rfl)) w) ?_
  refine qH M 13 28 (.int .u64 ((8 * (j % 2) : Nat) : Int)) (fun w _ => (fun w => Eq.trans (b := .ok (.value (.int .u64 (IntKind.wrap .u64 ((8 * (j % 2) : Nat) : Int)))) w) (by kernel_rfl) (by rw [wrapL (by omega) (by omega)])) w) <| qH M 14 29 (.int .u64 (sl (cv .u64 (bt s j)) (8 * (j % 2)))) (fun w _ => (Pol.run_shlU 33 106 _ _ rfl _ .u64 (8 * (j % 2)) (by kernel_rfl) (by kernel_rfl) (by omega)) w) <| qV M 15 30 (.int .u64 (uo ((Mon.pt s j) ((j / 2 : Nat))) (sl (cv .u64 (bt s j)) (8 * (j % 2))))) <| qH M 16 31 (.pointer (some ⟨g2, ((j / 2 : Nat)), none⟩)) (fun w _ => (run_ix1 108 16 33 Tryz.underlying108 inz33 _ _ rfl g2 (by kernel_rfl) .i64 ((j / 2 : Nat)) (by kernel_rfl) (by omega)) w) <| qZ ?_
  refine ZP64 M 1 ((j / 2 : Nat)) (uo ((Mon.pt s j) ((j / 2 : Nat))) (sl (cv .u64 (bt s j)) (8 * (j % 2)))) fun u4 M => ?_
  replace M := M.nf
  refine nT <| au_block <| au_then <| rg_lit <| rV 1 <| ZI 14 ((j : Int) + 1) ((j + 1 : Nat) : Int) <| rV 1 <| nT ?_
  rw [pt_nx s] at M
  exact exS M
 ·intro a u0 hI
  obtain ⟨v1, rfl, M⟩ := hI
  refine wp_seq <| sR <| rV 1 <| ZF 6 ((32 : Int) < 32) <| rV 6 <| nT <| cF <| wp_exit <| au_then_exit <| au_then_exit <| au_block_exit <| au_then <| sR <| pA M 32 1 16 (w64 (Mon.pt s 32)) <| ZG M 0 16 (w64 (Mon.pt s 32)) fun u3 M => ?_
  replace M := M.nf
  refine nT <| wp_ret ?_
  exact bc Tryz.results86 M 0 16 (w64 (Mon.pt s 32)) ⟨rfl, below_grown M.old⟩
theorem l_rbytes (f : NI) (hf : Mon.Dig f 16) (w : World) (hL : Laid w)  : Cs 61 #[.agg (av 16 (w64 f))] w (.string (Mon.bs (Mon.rb f 32))) := by
 go_enter Tryz.func61, Tryz.ntmps61
 have M := Mem.start hL
 refine sR <| pN M 1 (.cells (av 16 (w64 f)) 108) fun g1 u1 M => ?_
 replace M := M.nf
 refine rV 1 <| nT <| sR <| ZM M 5 (fun g2 => .slice (some ⟨g2, 0, none⟩) 32 32) (.cells (av 32 (w8 (rbF f 0))) 5) fun g2 u2 M => ?_
 replace M := M.nf
 refine rV 1 <| nT <| wp_seq <| sq <| wp_block ?_
 refine au_loop (fun j a w' => ∃ v1 : NV, a = (fm ([.agg (av 16 (w64 f)), .pointer (some ⟨g1, 0, none⟩), .string ⟨#[]⟩, .slice (some ⟨g2, 0, none⟩) 32 32, .int .i64 (j : Int)] ++ vr v1 5 20)) ∧ Mem ⟨w, []⟩ [⟨g1, .cells (av 16 (w64 f)) 108⟩, ⟨g2, .cells (av 32 (w8 (rbF f j))) 5⟩] w') 32 (exS M) ?_ ?_
 ·intro j a u0 hj hI
  obtain ⟨v1, rfl, M⟩ := hI
  refine wp_seq <| sR <| rV 1 <| ZT 7 ((j : Int) < 32) <| nT <| cT <| wp_skip <| au_then <| wp_seq <| wp_block <| rg_lit <| rV 3 <| ZQ 13 .i64 (IntKind.wrap .i64 ((j : Int).tdiv 2)) (quo2 j (by omega)) <| ZX 14 .i64 g1 ((j / 2 : Nat)) 16 <| ZE M 15 0 ((j / 2 : Nat)) <| rV 1 ?_
  refine pH 17 (.int .i64 ((j % 2 : Nat) : Int)) (run_remL 3 3 _ _ rfl j 2 (by kernel_rfl) (by kernel_rfl) (by decide)) ?_
  refine zJ 18 (.int .i64 ((8 * (j % 2) : Nat) : Int)) (.int .i64 (IntKind.wrap .i64 ((8 : Int) * ((j % 2 : Nat) : Int)))) (by rw [wrap64 (by omega) (by omega)]; rfl) ?_
  refine zJ 19 (.int .u64 ((8 * (j % 2) : Nat) : Int)) (.int .u64 (IntKind.wrap .u64 ((8 * (j % 2) : Nat) : Int))) (by rw [wrapL (by omega) (by omega)]) <| pH 20 (.int .u64 (sr (f (j / 2)) (8 * (j % 2)))) (Pol.run_shrU 33 106 _ _ rfl _ .u64 (8 * (j % 2)) (by kernel_rfl) (by kernel_rfl) (by omega)) <| rV 1 <| pH 22 (.pointer (some ⟨g2, j, none⟩)) (run_ix0 44 5 Tryz.underlying44 inz5 _ _ rfl g2 32 32 (by kernel_rfl) .i64 j (by kernel_rfl) (by omega)) <| ZP8 M 1 j (cv .u8 (sr (f (j / 2)) (8 * (j % 2)))) fun u3 M => ?_
  replace M := M.nf
  refine pl_nil <| au_block <| au_then <| rg_lit <| rV 1 <| ZI 9 ((j : Int) + 1) ((j + 1 : Nat) : Int) <| rV 1 <| nT ?_
  rw [rb_nx f j (hf (j / 2) (by omega)).1] at M
  exact exS M
 ·intro a u0 hI
  obtain ⟨v1, rfl, M⟩ := hI
  refine wp_seq <| sR <| rV 1 <| ZF 7 ((32 : Int) < 32) <| nT <| cF <| wp_exit <| au_then_exit <| au_then_exit <| au_block_exit <| au_then <| sR <| rV 1 ?_
  refine pl_back M (want_no rfl) (some 24) rfl _ rfl 1 g2 32 32 (by kernel_rfl) _ rfl ((List.range 32).map (rbF f 32)) 32 (sb_av 32 _ 5) rfl (fun y hy => by obtain ⟨i, hi, rfl⟩ := List.mem_map.1 hy; unfold rbF; rw [if_pos (List.mem_range.1 hi)]; unfold Mon.by16; omega) ?_
  refine rV 1 <| nT <| wp_ret ?_
  exact b1 M
theorem l_rof0 (s : Yb) (hs : s.size = 32) (w : World) (hL : Laid w)  : Cs 55 #[.string s] w (.agg (av 16 (w64 (Mon.d16 (Mon.S (Mon.wid (Mon.pt s 32) 16) 32 % Mon.Pm))))) := by
 go_enter Tryz.func55, Tryz.ntmps55
 have M := Mem.start hL
 refine sR <| pN M 2 (.cells (av 16 (w64 (fun _ => 0))) 108) fun g1 u1 M => ?_
 replace M := M.nf
 refine nT <| sR <| rV 1 <| pD M 4 (.agg (av 16 (w64 (Mon.pt s 32)))) (fun w M => l_parts s hs w M.laid) fun u2 M => pD M 5 (.agg (av 32 (w64 (Mon.wid (Mon.pt s 32) 16)))) (fun w M => Mon.wide_any (Mon.pt s 32) w) fun u3 M => pD M 6 (.agg (av 16 (w64 (Mon.d16 (Mon.S (Mon.wid (Mon.pt s 32) 16) 32 % Mon.Pm))))) (fun w M => Mon.reduce_any (Mon.wid (Mon.pt s 32) 16) w (Mon.wid_48 (Mon.pt_dig s 32))) fun u4 M => ZG M 0 16 (w64 (Mon.d16 (Mon.S (Mon.wid (Mon.pt s 32) 16) 32 % Mon.Pm))) fun u5 M => ?_
 replace M := M.nf
 refine nT <| wp_ret ?_
 exact bc Tryz.results55 M 0 16 (w64 (Mon.d16 (Mon.S (Mon.wid (Mon.pt s 32) 16) 32 % Mon.Pm))) ⟨rfl, below_grown M.old⟩
theorem l_rof (s : Yb) (hs : s.size = 32) (w : World) (hL : Laid w) : Cs 55 #[.string s] w (.agg (av 16 (w64 (Mon.d16 (Mon.val s % Mon.Pm))))) := by
 have h := l_rof0 s hs w hL
 rwa [Mon.wid_S, Mon.pt_S] at h
end Go.Proofs.YtiahdbibeleakaaGreatDoor
namespace Go.Proofs.YtiahdbibeleakaaGreatDoor.Mon
open Go.RowKit
section
variable {P : Program} {ops : Array Oper} {md : Region.Mode} {W : World} {n : Nat}
def keepUpon (P : Program) (w : World) (v : Value) : Result Next → Prop
 | .ok (.value u) w' => w' = w ∧ u = v
 | .ok .skip w' => w' = w ∧ v = undef
 | .ok (.enter f args) w' => w' = w ∧ Calls P f args w (fun e w'' => e = .returned v ∧ Below w.heap.size w w'')
 | _ => False
def keepAt (P : Program) (o : Oper) (a : Act) (w : World) (v : Value) : Prop := keepUpon P w v ((execOp a.eval o).run P w)
def keepOp (P : Program) (o : Oper) (a : Act) (W : World) (K : Act → Prop) : Prop := ∃ v, (∀ s : KW W, keepAt P o a s.w v) ∧ K (a.put o.dst v)
def wpK (P : Program) (ops : Array Oper) (W : World) (Q : Act → Prop) : List Oper → Act → Prop
 | [], a => Q a
 | o :: rest, a => if Region.wanted o (yielded ops a.tmps) then keepOp P o a W (wpK P ops W Q rest) else wpK P ops W Q rest (a.put o.dst undef)
theorem wpK_nil {Q : Act → Prop} {a : Act} (h : Q a) : wpK P ops W Q [] a := h
theorem wpK_step {Q : Act → Prop} {a : Act} {o : Oper} {rest : List Oper}
  (h : ∀ K : Act → Prop, (∀ a, wpK P ops W Q rest a → K a) → if Region.wanted o (yielded ops a.tmps) then keepOp P o a W K else K (a.put o.dst undef)) : wpK P ops W Q (o :: rest) a :=
 h _ (fun _ h => h)
def YK (P : Program) (ops : Array Oper) (W : World) (o : Oper) (v : Value) (a : Act) : Prop :=
 (Region.wanted o (yielded ops a.tmps) = true ∧ ∀ s : KW W, keepAt P o a s.w v) ∨ (Region.wanted o (yielded ops a.tmps) = false ∧ v = undef)
def kOp (P : Program) (ops : Array Oper) (W : World) (i : Nat) (K : Act → Prop) (a : Act) : Prop := ∃ o v, ops[i]? = some o ∧ YK P ops W o v a ∧ K (a.put o.dst v)
theorem YK.same {o : Oper} {v : Value} {a a' : Act} (hy : YK P ops W o v a) (he : execOp a'.eval o = execOp a.eval o) (hw : Region.wanted o (yielded ops a'.tmps) = Region.wanted o (yielded ops a.tmps)) : YK P ops W o v a' := by
 unfold YK keepAt at *
 rw [he, hw]
 exact hy
theorem wpK_yields {Q : Act → Prop} {a : Act} {o : Oper} {rest : List Oper} (h : wpK P ops W Q (o :: rest) a) : ∃ v, YK P ops W o v a ∧ wpK P ops W Q rest (a.put o.dst v) := by
 unfold wpK at h
 by_cases hw : Region.wanted o (yielded ops a.tmps) = true
 ·rw [if_pos hw] at h
  obtain ⟨v, h1, h2⟩ := h
  exact ⟨v, .inl ⟨hw, h1⟩, h2⟩
 ·rw [if_neg hw] at h
  exact ⟨undef, .inr ⟨by simpa using hw, rfl⟩, h⟩
theorem YK.wpOp {W1 : World} (hW : Below W.heap.size W W1) {i : Nat} {o : Oper} {v : Value} {a : Act} (hi : ops[i]? = some o) (hy : YK P ops W o v a) {K : Act → World → Prop} {Q : Exit → Act → World → Prop} (s : KW W1)
  (h : ∀ t : KW W1, K (a.put o.dst v) t.w) : wpOp P ops Q i K a s.w := by
 unfold Go.wpOp
 simp only [hi]
 rcases hy with ⟨hw, hv⟩ | ⟨hw, rfl⟩
 ·rw [if_pos hw]
  refine .inl ?_
  have hk := hv ⟨s.w, hW.trans (s.keep.mono hW.size)⟩
  unfold keepAt at hk
  unfold Oper.wp
  generalize (execOp a.eval o).run P s.w = r at *
  cases r with
  | ok x w' =>
   cases x <;> simp only [keepUpon] at hk <;> simp only [Oper.upon]
   case value u =>
    obtain ⟨e1, e2⟩ := hk
    rw [e1, e2]
    exact h s
   case skip =>
    obtain ⟨e1, e2⟩ := hk
    rw [e1, ← e2]
    exact h s
   case enter f args =>
    obtain ⟨e1, hc⟩ := hk
    rw [e1]
    exact hc.mono fun e w'' ⟨he, hb⟩ => by subst he; exact h (s.next w'' hb)
  | halt x w' => simp only [keepUpon] at hk
 ·rw [if_neg (by rw [hw]; exact Bool.false_ne_true)]
  exact h s
def HeadK (P : Program) (md : Region.Mode) (ops : Array Oper) (W : World) (n : Nat) (L : Array Bool → Act → Prop) : Nat → Array Bool → Act → Prop
 | 0, done, a => L done a
 | f + 1, done, a => (∃ i, i < n ∧ i ∈ Region.ready md ops done) ∧ ∀ i ∈ Region.ready md ops done, i = n ∨ (i < n ∧ kOp P ops W i (HeadK P md ops W n L f (done.setIfInBounds i true)) a)
theorem HeadK.first {i : Nat} {oi : Oper} {v : Value} {L : Array Bool → Act → Prop} (hi : ops[i]? = some oi) (hsel : ∀ (j : Nat) (o : Oper) cs b, ops[j]? = some o → o.op ≠ .select cs b)
  (hs : Region.sinkB md ops (n + 1) = true) (hc : Region.chainB md ops (n + 1) = true) (hn : n + 1 < ops.size) (hin : i < n) (hend : ∀ done a, L done a → Region.ready md ops done = [n]) :
  ∀ (f : Nat) (done : Array Bool) (a : Act), HeadInv md ops (n + 1) done →
   (∀ j oj, ops[j]? = some oj → j ≠ i → done.getD j true = false → (∀ e ∈ oj.after, Region.binds md e = true → e.on ≠ i) → oi.apart ops oj = true) →
   i ∈ Region.ready md ops done → YK P ops W oi v a → HeadK P md ops W n L f (done.setIfInBounds i true) (a.put oi.dst v) → HeadK P md ops W n L (f + 1) done a := by
 intro f
 induction f with
 | zero =>
  intro done a inv _ hr hy H
  refine ⟨⟨i, hin, hr⟩, fun j hj => ?_⟩
  by_cases hji : j = i
  ·subst hji
   exact .inr ⟨hin, oi, v, hi, hy, H⟩
  ·have h1 := ready_mono hj hji
   rw [hend _ _ H] at h1
   exact .inl (by simpa using h1)
 | succ f ih =>
  intro done a inv hfree hr hy H
  have hun := (mem_ready.1 hr).1
  refine ⟨⟨i, hin, hr⟩, fun j hj => ?_⟩
  have hjn : j < n + 1 := Nat.lt_of_not_le fun h => tail_waits hs hc hn inv _ i rfl (by omega) hun j h hj
  by_cases hji : j = i
  ·subst hji
   exact .inr ⟨hin, oi, v, hi, hy, H⟩
  ·rcases H.2 j (ready_mono hj hji) with h0 | ⟨hjlt, oj, u, hoj, hyj, hK⟩
   ·exact .inl h0
   ·obtain ⟨hjun, oj', hoj', hall⟩ := mem_ready.1 hj
    have e : oj' = oj := Option.some.inj (hoj'.symm.trans hoj)
    subst e
    have hno : ∀ e ∈ oj'.after, Region.binds md e = true → e.on ≠ i := by
     intro e he hb heq
     have h1 := hall e he hb
     rw [heq, getD_both hun] at h1
     cases h1
    obtain ⟨h1, h2, h3⟩ := Oper.apart_spec (hfree j oj' hoj hji hjun hno)
    have hyj' : YK P ops W oj' u a := hyj.same (execOp_put oj' (fun cs b => hsel j oj' cs b hoj) a oi.dst v h1).symm (wanted_put oj' a oi.dst v h1).symm
    have hyi' : YK P ops W oi v (a.put oj'.dst u) := hy.same (execOp_put oi (fun cs b => hsel i oi cs b hi) a oj'.dst u h3) (wanted_put oi a oj'.dst u h3)
    refine .inr ⟨hjlt, oj', u, hoj, hyj', ih (done.setIfInBounds j true) _ (inv.set hj hjn) ?_ (ready_mono hr (Ne.symm hji)) hyi' ?_⟩
    ·intro k ok hk hki hku hkn
     refine hfree k ok hk hki ?_ hkn
     by_cases hjk : j = k
     ·subst hjk
      exact hjun
     ·rw [getD_set_ne true hjk] at hku
      exact hku
    ·rw [Array.setIfInBounds_comm _ _ hji, ← Act.put_comm a v u h2]
     exact hK
def lexA (md : Region.Mode) (ops : Array Oper) (g n : Nat) : Nat → Nat → Array Bool → Bool
 | 0, _, done => decide (Region.ready md ops done = [n]) && Region.seqB md ops g (n + 1) (done.setIfInBounds n true)
 | f + 1, k, done => (Region.ready md ops done).contains k && Region.free md ops done k && lexA md ops g n f (k + 1) (done.setIfInBounds k true)
def freeN (md : Region.Mode) (ops : Array Oper) (n : Nat) : Bool :=
 (List.range n).all fun i => !Region.waitsFor md ops i n && (match ops[i]?, ops[n]? with | some o, some m => o.apart ops m | _, _ => false)
def lexAllocB (md : Region.Mode) (ops : Array Oper) (n : Nat) : Bool :=
 Region.noSelect ops && decide (n + 1 < ops.size) && Region.sinkB md ops (n + 1) && Region.chainB md ops (n + 1) && freeN md ops n && lexA md ops (ops.size - (n + 1)) n n 0 (Array.replicate ops.size false)
theorem HeadK.lex {g : Nat} {K : Act → Prop} (hsel : Region.noSelect ops = true) (hs : Region.sinkB md ops (n + 1) = true) (hc : Region.chainB md ops (n + 1) = true) (hn : n + 1 < ops.size) (l : List Oper) :
  ∀ (k : Nat) (done : Array Bool) (a : Act), (∀ j, j < l.length → l[j]? = ops[k + j]?) → k + l.length = n → HeadInv md ops (n + 1) done →
  lexA md ops g n l.length k done = true → wpK P ops W K l a → HeadK P md ops W n (fun d a' => (Region.ready md ops d = [n] ∧ Region.seqB md ops g (n + 1) (d.setIfInBounds n true) = true) ∧ K a') l.length done a := by
 induction l with
 | nil =>
  intro k done a _ hk _ hB h
  simp only [List.length_nil, lexA, Bool.and_eq_true, decide_eq_true_eq] at hB
  exact ⟨hB, h⟩
 | cons o l ih =>
  intro k done a hl hk inv hB h
  have h0 : ops[k]? = some o := by simpa using (hl 0 (by simp)).symm
  simp only [List.length_cons, lexA, Bool.and_eq_true] at hB
  simp only [List.length_cons] at hk
  have hr : k ∈ Region.ready md ops done := by simpa using hB.1.1
  obtain ⟨v, hy, hK⟩ := wpK_yields h
  refine HeadK.first h0 (Region.noSelect_spec hsel) hs hc hn (by omega) (fun d a' hL => hL.1.1) l.length done a inv (Region.free_spec h0 hB.1.2) hr hy ?_
  refine ih (k + 1) _ _ (fun j hj => ?_) (by omega) (inv.set hr (by omega)) hB.2 hK
  have := hl (j + 1) (by simp; omega)
  simpa [Nat.add_assoc, Nat.add_comm 1 j] using this
theorem waits_of {i j : Nat} {o : Oper} (ho : ops[i]? = some o) (h : Region.waitsFor md ops i j = false) : ∀ e ∈ o.after, Region.binds md e = true → e.on ≠ j := by
 intro e he hb heq
 unfold Region.waitsFor at h
 simp only [ho] at h
 have : (o.after.any fun e => Region.binds md e && e.on == j) = true := Array.any_eq_true'.2 ⟨e, he, by simp [hb, heq]⟩
 rw [this] at h
 cases h
theorem HeadK.anyT {g : Nat} {L : Array Bool → Act → Prop} {Q : Exit → Act → World → Prop} {om : Oper} (hom : ops[n]? = some om) (hsel : Region.noSelect ops = true) (hs : Region.sinkB md ops (n + 1) = true) (hc : Region.chainB md ops (n + 1) = true) (hn : n + 1 < ops.size) (hfr : freeN md ops n = true)
  {W1 : World} (hW : Below W.heap.size W W1) (p : Value) (hL : ∀ done a, L done a → ∀ s : KW W1, wpAny P md ops Q g (done.setIfInBounds n true) (a.put om.dst p) s.w) :
  ∀ (f : Nat) (done : Array Bool) (a : Act), HeadInv md ops (n + 1) (done.setIfInBounds n true) → HeadK P md ops W n L f done a → ∀ s : KW W1, wpAny P md ops Q (f + g) (done.setIfInBounds n true) (a.put om.dst p) s.w := by
 intro f
 induction f with
 | zero =>
  intro done a _ h s
  rw [Nat.zero_add]
  exact hL done a h s
 | succ f ih =>
  intro done a inv h s
  have e : f + 1 + g = (f + g) + 1 := by omega
  rw [e]
  obtain ⟨⟨i0, hi0, hr0⟩, hall⟩ := h
  have hr0' : i0 ∈ Region.ready md ops (done.setIfInBounds n true) := ready_mono hr0 (by omega)
  refine ⟨fun h0 => (by rw [h0] at hr0'; cases hr0'), fun i hi => ?_⟩
  have hin : i < n + 1 := Nat.lt_of_not_le fun h => tail_waits hs hc hn inv _ i0 rfl (by omega) (mem_ready.1 hr0').1 i h hi
  obtain ⟨hiun, oi, hoi, hie⟩ := mem_ready.1 hi
  have hne : i ≠ n := by
   intro he
   subst he
   by_cases hlt : i < done.size
   ·simp [hlt] at hiun
   ·rw [Array.getD_eq_getD_getElem?, Array.getElem?_eq_none (by simpa using hlt)] at hiun
    cases hiun
  have hF := List.all_eq_true.1 hfr i (List.mem_range.2 (by omega))
  simp only [hoi, hom, Bool.and_eq_true, Bool.not_eq_true'] at hF
  have hwait := waits_of hoi hF.1
  have hrd : i ∈ Region.ready md ops done := by
   rw [mem_ready]
   rw [getD_set_ne true (Ne.symm hne)] at hiun
   refine ⟨hiun, oi, hoi, fun e he hb => ?_⟩
   have := hie e he hb
   rwa [getD_set_ne false (Ne.symm (hwait e he hb))] at this
  rcases hall i hrd with h0 | ⟨hlt, o, v, ho, hy, hK⟩
  ·exact absurd h0 hne
  ·have eo : o = oi := Option.some.inj (ho.symm.trans hoi)
   subst eo
   obtain ⟨h1, h2, h3⟩ := Oper.apart_spec hF.2
   have hso : ∀ cs b, o.op ≠ .select cs b := fun cs b => Region.noSelect_spec hsel i o cs b ho
   have hy' : YK P ops W o v (a.put om.dst p) := hy.same (execOp_put o hso a om.dst p h3) (wanted_put o a om.dst p h3)
   refine hy'.wpOp hW ho s fun t => ?_
   rw [← Act.put_comm a v p h2, Array.setIfInBounds_comm _ _ (Ne.symm hne)]
   refine ih (done.setIfInBounds i true) _ ?_ hK t
   rw [Array.setIfInBounds_comm _ _ hne]
   exact inv.set hi hin
theorem HeadK.anyS {g : Nat} {L : Array Bool → Act → Prop} {Q : Exit → Act → World → Prop} {om : Oper} {Z : Obj} (hom : ops[n]? = some om) (hsel : Region.noSelect ops = true) (hs : Region.sinkB md ops (n + 1) = true) (hc : Region.chainB md ops (n + 1) = true) (hn : n + 1 < ops.size) (hfr : freeN md ops n = true)
  (hg : om.guard = none) (hrun : ∀ a w, (execOp (Act.eval a) om).run P w = .ok (.value (.pointer (some ⟨w.heap.size, 0, none⟩))) (w.alloc Z)) (hend : ∀ done a, L done a → Region.ready md ops done = [n])
  (hL : ∀ done a, L done a → ∀ (w1 : World) (b : Nat), Below W.heap.size W w1 → W.heap.size ≤ b → w1.heap[b]? = some Z → wpAny P md ops Q g (done.setIfInBounds n true) (a.put om.dst (.pointer (some ⟨b, 0, none⟩))) w1) :
  ∀ (f : Nat) (done : Array Bool) (a : Act), HeadInv md ops (n + 1) done → HeadK P md ops W n L f done a → ∀ s : KW W, wpAny P md ops Q (f + 1 + g) done a s.w := by
 have hnow : ∀ (f : Nat) (done : Array Bool) (a : Act) (s : KW W), HeadInv md ops (n + 1) done → n ∈ Region.ready md ops done → HeadK P md ops W n L f done a → wpOp P ops Q n (wpAny P md ops Q (f + g) (done.setIfInBounds n true)) a s.w := by
  intro f done a s inv hr h
  unfold wpOp
  have hw : Region.wanted om (yielded ops a.tmps) = true := by simp [Region.wanted, hg]
  simp only [hom, hw, if_true]
  refine .inl ?_
  unfold Oper.wp
  rw [hrun]
  simp only [Oper.upon]
  have hW1 : Below W.heap.size W (s.w.alloc Z) := s.keep.alloc s.keep.size Z
  refine HeadK.anyT hom hsel hs hc hn hfr hW1 _ ?_ f done a (inv.set hr (by omega)) h ⟨_, Below.refl _ _⟩
  intro d a' hd t
  refine hL d a' hd t.w _ (hW1.trans (t.keep.mono hW1.size)) s.keep.size ?_
  rw [t.keep.block _ (by simp)]
  exact heap_alloc_new s.w Z
 intro f
 induction f with
 | zero =>
  intro done a inv h s
  have e : 0 + 1 + g = (0 + g) + 1 := by omega
  rw [e]
  have hr := hend done a h
  refine ⟨fun h0 => (by rw [hr] at h0; cases h0), fun i hi => ?_⟩
  have hi' : i = n := by rw [hr] at hi; simpa using hi
  rw [hi'] at hi ⊢
  exact hnow 0 done a s inv hi h
 | succ f ih =>
  intro done a inv h s
  have e : f + 1 + 1 + g = (f + 1 + g) + 1 := by omega
  rw [e]
  have h' := h
  obtain ⟨⟨i0, hi0, hr0⟩, hall⟩ := h
  refine ⟨fun h0 => (by rw [h0] at hr0; cases hr0), fun i hi => ?_⟩
  rcases hall i hi with h0 | ⟨hlt, o, v, ho, hy, hK⟩
  ·rw [h0] at hi ⊢
   exact hnow (f + 1) done a s inv hi h'
  ·refine hy.wpOp (Below.refl _ _) ho s fun t => ?_
   exact ih (done.setIfInBounds i true) _ (inv.set hi (by omega)) hK t
theorem wp_region_keep_alloc {id : Nat} {Q : Exit → Act → World → Prop} {a : Act} {l : List Oper} {om : Oper} {Z : Obj} (n : Nat) (hm : P.follows .mixedOrders = true) (hB : lexAllocB .any l.toArray n = true)
  (hom : l.toArray[n]? = some om) (hg : om.guard = none) (hrun : ∀ a w, (execOp (Act.eval a) om).run P w = .ok (.value (.pointer (some ⟨w.heap.size, 0, none⟩))) (w.alloc Z))
  (h : wpK P l.toArray W (fun a' => ∀ (w1 : World) (b : Nat), Below W.heap.size W w1 → W.heap.size ≤ b → w1.heap[b]? = some Z → ∀ a2, a2 = a'.put om.dst (.pointer (some ⟨b, 0, none⟩)) → wpList P l.toArray Q (l.drop (n + 1)) a2 w1) (l.take n) a) :
  (Code.region id l.toArray true).wp P Q a W := by
 simp only [lexAllocB, Bool.and_eq_true, decide_eq_true_eq] at hB
 obtain ⟨⟨⟨⟨⟨hsel, hn⟩, hs⟩, hc⟩, hfr⟩, hlex⟩ := hB
 have hn' : n + 1 < l.length := by simpa using hn
 have htl : (l.take n).length = n := by simp; omega
 have hdl : (l.drop (n + 1)).length = l.toArray.size - (n + 1) := by simp
 have inv : HeadInv .any l.toArray (n + 1) (Array.replicate l.toArray.size false) :=
  ⟨by simp, fun j oj _ hl => (by rw [getD_replicate_false] at hl; cases hl), fun t _ ht => getD_in (by simpa using ht) (getD_replicate_false _ _)⟩
 have H := HeadK.lex (md := .any) (g := l.toArray.size - (n + 1)) hsel hs hc hn (l.take n) 0 _ a (fun j hj => by rw [htl] at hj; simp [hj]) (by simpa using htl) inv (by rw [htl]; exact hlex) h
 refine wp_region_any hm ?_
 have H2 := HeadK.anyS (Q := Q) (g := l.toArray.size - (n + 1)) hom hsel hs hc hn hfr hg hrun (fun d a' hL => hL.1.1) (fun d a' hL w1 b h1 h2 h3 => by
  have := wpAny_of_seq (md := .any) (Q' := Q) (l.drop (n + 1)) (n + 1) (d.setIfInBounds n true) (a'.put om.dst (.pointer (some ⟨b, 0, none⟩))) w1 (fun j => by simp [List.getElem?_drop]) (by rw [hdl]; exact hL.1.2) (hL.2 w1 b h1 h2 h3 _ rfl)
  rwa [hdl] at this) _ _ _ inv H ⟨W.drew, (Below.refl _ _).drew⟩
 rw [htl, show n + 1 + (l.toArray.size - (n + 1)) = l.toArray.size by omega] at H2
 exact H2
end
open Go.RowKit
theorem maskN (a : Nat) (ha : a < 18446744073709551616) : bits .and .u64 (a : Int) 4294967295 = ((a % 4294967296 : Nat) : Int) := by
 have h := bits_and_u64_nat a 4294967295 ha (by omega)
 have e : a &&& 4294967295 = a % 4294967296 := Nat.and_two_pow_sub_one_eq_mod a 32
 rw [e] at h
 exact h
theorem divN (a : Nat) : (a : Int) / 4294967296 = ((a / 4294967296 : Nat) : Int) := by omega
theorem mulN (a b : Nat) : (a : Int) * (b : Int) = ((a * b : Nat) : Int) := (Int.natCast_mul a b).symm
theorem addN (a b : Nat) : (a : Int) + (b : Int) = ((a + b : Nat) : Int) := (Int.natCast_add a b).symm
theorem wrapN (a : Nat) (ha : a < 18446744073709551616) : IntKind.u64.wrap (a : Int) = (a : Int) := by rw [IntKind.wrap_u64]; omega
theorem wrapM (a : Nat) : IntKind.u64.wrap (a : Int) = ((a % 18446744073709551616 : Nat) : Int) := by rw [IntKind.wrap_u64]; omega
theorem mul64_nat (x y : Nat) (hx : x < 18446744073709551616) (hy : y < 18446744073709551616) (w : World) : Calls Tryz.prog 171 #[.int .u64 x, .int .u64 y] w fun e w' => e = .returned (.tuple #[.int .u64 ((x * y / 18446744073709551616 : Nat) : Int), .int .u64 ((x * y % 18446744073709551616 : Nat) : Int)]) ∧ w' = w := by
 obtain ⟨bd, bt, bw, hhi⟩ := Lib.mul64_hi x y hx hy
 have ba := Lib.half_mul_le (a := x / 4294967296) (b := y / 4294967296) (by omega) (by omega)
 have bb := Lib.half_mul_le (a := x / 4294967296) (b := y % 4294967296) (by omega) (by omega)
 have bc := Lib.half_mul_le (a := x % 4294967296) (b := y / 4294967296) (by omega) (by omega)
 have ba' : x / 4294967296 * (y / 4294967296) < 18446744073709551616 := by omega
 have bb' : x / 4294967296 * (y % 4294967296) < 18446744073709551616 := by omega
 have bc' : x % 4294967296 * (y / 4294967296) < 18446744073709551616 := by omega
 have bh1 : x / 4294967296 * (y / 4294967296) + (x / 4294967296 * (y % 4294967296) + x % 4294967296 * (y % 4294967296) / 4294967296) / 4294967296 < 18446744073709551616 := by omega
 have bh : x / 4294967296 * (y / 4294967296) + (x / 4294967296 * (y % 4294967296) + x % 4294967296 * (y % 4294967296) / 4294967296) / 4294967296 + ((x / 4294967296 * (y % 4294967296) + x % 4294967296 * (y % 4294967296) / 4294967296) % 4294967296 + x % 4294967296 * (y / 4294967296)) / 4294967296 < 18446744073709551616 := by omega
 go_enter Tryz.func171, Tryz.ntmps171
 go_wp2
 simp only [maskN x hx, maskN y hy, divN, mulN, addN, wrapN _ bd, wrapN _ bb', wrapN _ bt, maskN _ bt, wrapN _ bc', wrapN _ bw, wrapN _ ba', wrapN _ bh1, wrapN _ bh, wrapM (x * y)]
 rw [hhi]
 go_ret2
 exact ⟨rfl, rfl⟩
theorem add64_run (x y c : Int) (hx : 0 ≤ x) (hy : 0 ≤ y) (hc0 : 0 ≤ c) (hc : c ≤ 1) (w : World) :
  (callFunc 172 #[.int .u64 x, .int .u64 y, .int .u64 c]).run Tryz.prog w =
   .ok (.value (.tuple #[.int .u64 ((x + y + c) % 18446744073709551616), .int .u64 ((x + y + c) / 18446744073709551616)])) w := by
 rw [run_callFunc_extern Tryz.func172 (by kernel_rfl) (by kernel_rfl) (by kernel_rfl) (e := add64Entry) (by kernel_rfl), run_add64 x y c hx hy hc0 hc]
 simp only [Result.andThen]
abbrev wd (N : Int) : Value := .agg #[.int .u64 (N / 18446744073709551616), .int .u64 (N % 18446744073709551616)]
theorem product_any (x y : Int) (w : World) (hx : W64 x) (hy : W64 y) : Cs 150 #[.int .u64 x, .int .u64 y] w (wd (x * y)) := by
 obtain ⟨X, rfl⟩ := Int.eq_ofNat_of_zero_le hx.1
 obtain ⟨Y, rfl⟩ := Int.eq_ofNat_of_zero_le hy.1
 have hX : X < 18446744073709551616 := by have := hx.2; omega
 have hY : Y < 18446744073709551616 := by have := hy.2; omega
 clear hx hy
 go_enter Tryz.func150, Tryz.ntmps150
 go_wp2_with fail
 refine (mul64_nat X Y hX hY _).mono ?_
 rintro _ w1 ⟨rfl, rfl⟩
 go_wp2
 exact bodyPost_ret (v := wd ((X : Int) * (Y : Int))) (by simp [results, Tryz.results150, go_sem]) rfl ⟨rfl, (Below.refl _ _).alloc (Nat.le_refl _) _⟩
theorem plusH {N M : Int} (h0 : 0 ≤ N) (h1 : 0 ≤ M) (hlt : N + M < 340282366920938463463374607431768211456) : (N / 18446744073709551616 + M / 18446744073709551616 + (N % 18446744073709551616 + M % 18446744073709551616) / 18446744073709551616) % 18446744073709551616 = (N + M) / 18446744073709551616 := by omega
theorem plusL {N M : Int} : (N % 18446744073709551616 + M % 18446744073709551616) % 18446744073709551616 = (N + M) % 18446744073709551616 := by omega
theorem plus_hl (h l h' l' : Int) (w : World) (a0 : 0 ≤ h) (b0 : 0 ≤ l) (b1 : l < 18446744073709551616) (c0 : 0 ≤ h') (d0 : 0 ≤ l') (d1 : l' < 18446744073709551616) : Cs 151 #[.agg #[.int .u64 h, .int .u64 l], .agg #[.int .u64 h', .int .u64 l']] w (.agg #[.int .u64 ((h + h' + (l + l') / 18446744073709551616) % 18446744073709551616), .int .u64 ((l + l') % 18446744073709551616)]) := by
 have r1 := add64_run l l' 0 b0 d0 (by decide) (by decide)
 have r2 := add64_run h h' ((l + l' + 0) / 18446744073709551616) a0 c0 (by omega) (by omega)
 rw [Int.add_zero] at r1 r2
 go_enter Tryz.func151, Tryz.ntmps151
 go_wp2
 exact bodyPost_ret (v := .agg #[.int .u64 ((h + h' + (l + l') / 18446744073709551616) % 18446744073709551616), .int .u64 ((l + l') % 18446744073709551616)]) (by simp [results, Tryz.results151, go_sem]) rfl ⟨rfl, (((Below.refl _ _).alloc (Nat.le_refl _) _).alloc (by simp) _).alloc (by simp; omega) _⟩
theorem plus_any (N M : Int) (w : World) (h0 : 0 ≤ N) (h1 : 0 ≤ M) (hlt : N + M < 340282366920938463463374607431768211456) : Cs 151 #[wd N, wd M] w (wd (N + M)) := by
 have := plus_hl (N / 18446744073709551616) (N % 18446744073709551616) (M / 18446744073709551616) (M % 18446744073709551616) w (by omega) (by omega) (by omega) (by omega) (by omega) (by omega)
 rw [plusH h0 h1 hlt, plusL] at this
 exact this
theorem belowR (N : Int) : bits BinOp.and IntKind.u64 (N % 18446744073709551616) 2251799813685247 = N % 2251799813685248 := by
 rw [and51 ⟨by omega, by omega⟩]
 omega
theorem below_any (N : Int) (w : World) : Cs 152 #[wd N] w (.int .u64 (N % 2251799813685248)) := by
 have e := belowR N
 go_enter Tryz.func152, Tryz.ntmps152
 go_wp2
 go_ret
 exact ⟨rfl, (Below.refl _ _).alloc (Nat.le_refl _) _⟩
theorem aboveR {N : Int} (h0 : 0 ≤ N) (h1 : N < 41538374868278621028243970633760768) : bits BinOp.or IntKind.u64 (IntKind.u64.wrap (N / 18446744073709551616 * 8192)) (N % 18446744073709551616 / 2251799813685248) = N / 2251799813685248 := by
 rw [wrap64u ⟨by omega, by omega⟩, or_join 13 8192 (by decide) ⟨by omega, by omega⟩ ⟨by omega, by omega⟩ (by omega) (by omega)]
 omega
theorem above_any (N : Int) (w : World) (h0 : 0 ≤ N) (h1 : N < 41538374868278621028243970633760768) : Cs 153 #[wd N] w (.int .u64 (N / 2251799813685248)) := by
 have e := aboveR h0 h1
 clear h0 h1
 go_enter Tryz.func153, Tryz.ntmps153
 go_wp2
 go_ret
 exact ⟨rfl, (Below.refl _ _).alloc (Nat.le_refl _) _⟩
open Go.RowKit
theorem E5.Ok.wa {x : E5} (h : x.Ok) : W64 x.a := ⟨h.a0, by have := h.a1; omega⟩
theorem E5.Ok.wb {x : E5} (h : x.Ok) : W64 x.b := ⟨h.b0, by have := h.b1; omega⟩
theorem E5.Ok.vb {x : E5} (h : x.Ok) : W64 (x.b * 19) := ⟨by have := h.b0; omega, by have := h.b1; omega⟩
theorem E5.Ok.wc {x : E5} (h : x.Ok) : W64 x.c := ⟨h.c0, by have := h.c1; omega⟩
theorem E5.Ok.vc {x : E5} (h : x.Ok) : W64 (x.c * 19) := ⟨by have := h.c0; omega, by have := h.c1; omega⟩
theorem E5.Ok.wd {x : E5} (h : x.Ok) : W64 x.d := ⟨h.d0, by have := h.d1; omega⟩
theorem E5.Ok.vd {x : E5} (h : x.Ok) : W64 (x.d * 19) := ⟨by have := h.d0; omega, by have := h.d1; omega⟩
theorem E5.Ok.we {x : E5} (h : x.Ok) : W64 x.e := ⟨h.e0, by have := h.e1; omega⟩
theorem E5.Ok.ve {x : E5} (h : x.Ok) : W64 (x.e * 19) := ⟨by have := h.e0; omega, by have := h.e1; omega⟩
structure MulW (w W : World) : Prop where
 old : Below w.heap.size w W
 size : w.heap.size + 1 + 1 < W.heap.size
 free : ∀ o, W.frozen? ⟨w.heap.size + 1 + 1, o, none⟩ = false
 c0 : W.cell? ⟨w.heap.size + 1 + 1, 0, none⟩ = some (.int .u64 0)
 c1 : W.cell? ⟨w.heap.size + 1 + 1, 1, none⟩ = some (.int .u64 0)
 c2 : W.cell? ⟨w.heap.size + 1 + 1, 2, none⟩ = some (.int .u64 0)
 c3 : W.cell? ⟨w.heap.size + 1 + 1, 3, none⟩ = some (.int .u64 0)
 c4 : W.cell? ⟨w.heap.size + 1 + 1, 4, none⟩ = some (.int .u64 0)
theorem MulW.keep {w W W' : World} (h : MulW w W) (hb : Below W.heap.size W W') : MulW w W' :=
 ⟨h.old.trans (hb.mono h.old.size), Nat.lt_of_lt_of_le h.size hb.size, fun o => (hb.frozen (p := ⟨_, o, none⟩) h.size).trans (h.free o), (hb.cell (p := ⟨_, 0, none⟩) h.size).trans h.c0, (hb.cell (p := ⟨_, 1, none⟩) h.size).trans h.c1, (hb.cell (p := ⟨_, 2, none⟩) h.size).trans h.c2, (hb.cell (p := ⟨_, 3, none⟩) h.size).trans h.c3, (hb.cell (p := ⟨_, 4, none⟩) h.size).trans h.c4⟩
theorem MulW.start {w W : World} {A B : Obj} {n : Nat}
  (hb : Below ((((w.alloc A).alloc B).alloc (.cells #[.int .u64 0, .int .u64 0, .int .u64 0, .int .u64 0, .int .u64 0] 143)).drewN n).heap.size ((((w.alloc A).alloc B).alloc (.cells #[.int .u64 0, .int .u64 0, .int .u64 0, .int .u64 0, .int .u64 0] 143)).drewN n) W) : MulW w W := by
 refine MulW.keep ?_ hb
 refine ⟨?_, by simp, by simp [go_sem], by simp [go_sem], by simp [go_sem], by simp [go_sem], by simp [go_sem], by simp [go_sem]⟩
 have := (((Below.refl w.heap.size w).alloc (Nat.le_refl _) A).alloc (by simp) B).alloc (by simp; omega) (.cells #[.int .u64 0, .int .u64 0, .int .u64 0, .int .u64 0, .int .u64 0] 143)
 exact ⟨this.os, this.tape, this.output, this.size, this.block⟩
structure At (W : World) (g : Nat) (N : Int) : Prop where
 size : g < W.heap.size
 c0 : W.cell? ⟨g, 0, none⟩ = some (.int .u64 (N / 18446744073709551616))
 c1 : W.cell? ⟨g, 1, none⟩ = some (.int .u64 (N % 18446744073709551616))
theorem At.keep {W W' : World} {g : Nat} {N : Int} (h : At W g N) (hb : Below W.heap.size W W') : At W' g N :=
 ⟨Nat.lt_of_lt_of_le h.size hb.size, (hb.cell (p := ⟨g, 0, none⟩) h.size).trans h.c0, (hb.cell (p := ⟨g, 1, none⟩) h.size).trans h.c1⟩
theorem At.new (W : World) (N : Int) : At (W.alloc (.cells #[.int .u64 (N / 18446744073709551616), .int .u64 (N % 18446744073709551616)] 211)) W.heap.size N :=
 ⟨by simp, by simp [go_sem], by simp [go_sem]⟩
theorem below_new (W : World) (o : Obj) : Below W.heap.size W (W.alloc o) := (Below.refl _ _).alloc (Nat.le_refl _) _
theorem mul_any (x y : E5) (w : World) (hx : x.Ok) (hy : y.Ok) : Calls Tryz.prog 117 #[x.v, y.v] w fun r w' => r = .returned (mulF x y).v ∧ Below w.heap.size w w' := by
 have HB := hide (MB.of hx hy)
 have HS := hide (MS.of hx hy)
 have q0 := hy.b0
 have q1 := hy.b1
 have q2 := hy.c0
 have q3 := hy.c1
 have q4 := hy.d0
 have q5 := hy.d1
 have q6 := hy.e0
 have q7 := hy.e1
 go_enter Tryz.func117, Tryz.ntmps117
 go_wp2_with fail
 go_quiet (fail)
 go_wp2_with fail
 go_quiet (fail)
 go_wp2_with fail
 clear q0 q1 q2 q3 q4 q5 q6 q7
 refine (product_any x.a y.a _ hx.wa hy.wa).mono ?_
 rintro _ wv ⟨rfl, hb⟩
 have M := MulW.start hb
 clear hb
 go_wp2_with fail
 refine (product_any x.b (y.e * 19) _ hx.wb hy.ve).mono ?_
 rintro _ wv ⟨rfl, hb⟩
 replace M := M.keep hb
 clear hb
 go_wp2_with fail
 refine (plus_any (x.a * y.a) (x.b * (y.e * 19)) _ (by have B := HB.out; have := B.aa; have := B.be'; have := B.cd'; have := B.dc'; have := B.eb'; omega) (by have B := HB.out; have := B.aa; have := B.be'; have := B.cd'; have := B.dc'; have := B.eb'; omega) (by have B := HB.out; have := B.aa; have := B.be'; have := B.cd'; have := B.dc'; have := B.eb'; omega)).mono ?_
 rintro _ wv ⟨rfl, hb⟩
 replace M := M.keep hb
 clear hb
 go_wp2_with fail
 refine (product_any x.c (y.d * 19) _ hx.wc hy.vd).mono ?_
 rintro _ wv ⟨rfl, hb⟩
 replace M := M.keep hb
 clear hb
 go_wp2_with fail
 refine (plus_any (x.a * y.a + x.b * (y.e * 19)) (x.c * (y.d * 19)) _ (by have B := HB.out; have := B.aa; have := B.be'; have := B.cd'; have := B.dc'; have := B.eb'; omega) (by have B := HB.out; have := B.aa; have := B.be'; have := B.cd'; have := B.dc'; have := B.eb'; omega) (by have B := HB.out; have := B.aa; have := B.be'; have := B.cd'; have := B.dc'; have := B.eb'; omega)).mono ?_
 rintro _ wv ⟨rfl, hb⟩
 replace M := M.keep hb
 clear hb
 go_wp2_with fail
 refine (product_any x.d (y.c * 19) _ hx.wd hy.vc).mono ?_
 rintro _ wv ⟨rfl, hb⟩
 replace M := M.keep hb
 clear hb
 go_wp2_with fail
 refine (plus_any (x.a * y.a + x.b * (y.e * 19) + x.c * (y.d * 19)) (x.d * (y.c * 19)) _ (by have B := HB.out; have := B.aa; have := B.be'; have := B.cd'; have := B.dc'; have := B.eb'; omega) (by have B := HB.out; have := B.aa; have := B.be'; have := B.cd'; have := B.dc'; have := B.eb'; omega) (by have B := HB.out; have := B.aa; have := B.be'; have := B.cd'; have := B.dc'; have := B.eb'; omega)).mono ?_
 rintro _ wv ⟨rfl, hb⟩
 replace M := M.keep hb
 clear hb
 go_wp2_with fail
 refine (product_any x.e (y.b * 19) _ hx.we hy.vb).mono ?_
 rintro _ wv ⟨rfl, hb⟩
 replace M := M.keep hb
 clear hb
 go_wp2_with fail
 refine (plus_any (x.a * y.a + x.b * (y.e * 19) + x.c * (y.d * 19) + x.d * (y.c * 19)) (x.e * (y.b * 19)) _ (by have B := HB.out; have := B.aa; have := B.be'; have := B.cd'; have := B.dc'; have := B.eb'; omega) (by have B := HB.out; have := B.aa; have := B.be'; have := B.cd'; have := B.dc'; have := B.eb'; omega) (by have B := HB.out; have := B.aa; have := B.be'; have := B.cd'; have := B.dc'; have := B.eb'; omega)).mono ?_
 rintro _ wv ⟨rfl, hb⟩
 replace M := M.keep hb
 clear hb
 rw [show x.a * y.a + x.b * (y.e * 19) + x.c * (y.d * 19) + x.d * (y.c * 19) + x.e * (y.b * 19) = m0 x y from rfl]
 go_wp2_with fail
 refine (product_any x.a y.b _ hx.wa hy.wb).mono ?_
 rintro _ wv ⟨rfl, hb⟩
 replace M := (M.keep (below_new _ _)).keep hb
 have A0 := (At.new _ _).keep hb
 clear hb
 go_wp2_with fail
 refine (product_any x.b y.a _ hx.wb hy.wa).mono ?_
 rintro _ wv ⟨rfl, hb⟩
 replace M := M.keep hb
 replace A0 := A0.keep hb
 clear hb
 go_wp2_with fail
 refine (plus_any (x.a * y.b) (x.b * y.a) _ (by have B := HB.out; have := B.ab; have := B.ba; have := B.ce'; have := B.dd'; have := B.ec'; omega) (by have B := HB.out; have := B.ab; have := B.ba; have := B.ce'; have := B.dd'; have := B.ec'; omega) (by have B := HB.out; have := B.ab; have := B.ba; have := B.ce'; have := B.dd'; have := B.ec'; omega)).mono ?_
 rintro _ wv ⟨rfl, hb⟩
 replace M := M.keep hb
 replace A0 := A0.keep hb
 clear hb
 go_wp2_with fail
 refine (product_any x.c (y.e * 19) _ hx.wc hy.ve).mono ?_
 rintro _ wv ⟨rfl, hb⟩
 replace M := M.keep hb
 replace A0 := A0.keep hb
 clear hb
 go_wp2_with fail
 refine (plus_any (x.a * y.b + x.b * y.a) (x.c * (y.e * 19)) _ (by have B := HB.out; have := B.ab; have := B.ba; have := B.ce'; have := B.dd'; have := B.ec'; omega) (by have B := HB.out; have := B.ab; have := B.ba; have := B.ce'; have := B.dd'; have := B.ec'; omega) (by have B := HB.out; have := B.ab; have := B.ba; have := B.ce'; have := B.dd'; have := B.ec'; omega)).mono ?_
 rintro _ wv ⟨rfl, hb⟩
 replace M := M.keep hb
 replace A0 := A0.keep hb
 clear hb
 go_wp2_with fail
 refine (product_any x.d (y.d * 19) _ hx.wd hy.vd).mono ?_
 rintro _ wv ⟨rfl, hb⟩
 replace M := M.keep hb
 replace A0 := A0.keep hb
 clear hb
 go_wp2_with fail
 refine (plus_any (x.a * y.b + x.b * y.a + x.c * (y.e * 19)) (x.d * (y.d * 19)) _ (by have B := HB.out; have := B.ab; have := B.ba; have := B.ce'; have := B.dd'; have := B.ec'; omega) (by have B := HB.out; have := B.ab; have := B.ba; have := B.ce'; have := B.dd'; have := B.ec'; omega) (by have B := HB.out; have := B.ab; have := B.ba; have := B.ce'; have := B.dd'; have := B.ec'; omega)).mono ?_
 rintro _ wv ⟨rfl, hb⟩
 replace M := M.keep hb
 replace A0 := A0.keep hb
 clear hb
 go_wp2_with fail
 refine (product_any x.e (y.c * 19) _ hx.we hy.vc).mono ?_
 rintro _ wv ⟨rfl, hb⟩
 replace M := M.keep hb
 replace A0 := A0.keep hb
 clear hb
 go_wp2_with fail
 refine (plus_any (x.a * y.b + x.b * y.a + x.c * (y.e * 19) + x.d * (y.d * 19)) (x.e * (y.c * 19)) _ (by have B := HB.out; have := B.ab; have := B.ba; have := B.ce'; have := B.dd'; have := B.ec'; omega) (by have B := HB.out; have := B.ab; have := B.ba; have := B.ce'; have := B.dd'; have := B.ec'; omega) (by have B := HB.out; have := B.ab; have := B.ba; have := B.ce'; have := B.dd'; have := B.ec'; omega)).mono ?_
 rintro _ wv ⟨rfl, hb⟩
 replace M := M.keep hb
 replace A0 := A0.keep hb
 clear hb
 rw [show x.a * y.b + x.b * y.a + x.c * (y.e * 19) + x.d * (y.d * 19) + x.e * (y.c * 19) = m1 x y from rfl]
 go_wp2_with fail
 refine (product_any x.a y.c _ hx.wa hy.wc).mono ?_
 rintro _ wv ⟨rfl, hb⟩
 replace M := (M.keep (below_new _ _)).keep hb
 replace A0 := (A0.keep (below_new _ _)).keep hb
 have A1 := (At.new _ _).keep hb
 clear hb
 go_wp2_with fail
 refine (product_any x.b y.b _ hx.wb hy.wb).mono ?_
 rintro _ wv ⟨rfl, hb⟩
 replace M := M.keep hb
 replace A0 := A0.keep hb
 replace A1 := A1.keep hb
 clear hb
 go_wp2_with fail
 refine (plus_any (x.a * y.c) (x.b * y.b) _ (by have B := HB.out; have := B.ac; have := B.bb; have := B.ca; have := B.de'; have := B.ed'; omega) (by have B := HB.out; have := B.ac; have := B.bb; have := B.ca; have := B.de'; have := B.ed'; omega) (by have B := HB.out; have := B.ac; have := B.bb; have := B.ca; have := B.de'; have := B.ed'; omega)).mono ?_
 rintro _ wv ⟨rfl, hb⟩
 replace M := M.keep hb
 replace A0 := A0.keep hb
 replace A1 := A1.keep hb
 clear hb
 go_wp2_with fail
 refine (product_any x.c y.a _ hx.wc hy.wa).mono ?_
 rintro _ wv ⟨rfl, hb⟩
 replace M := M.keep hb
 replace A0 := A0.keep hb
 replace A1 := A1.keep hb
 clear hb
 go_wp2_with fail
 refine (plus_any (x.a * y.c + x.b * y.b) (x.c * y.a) _ (by have B := HB.out; have := B.ac; have := B.bb; have := B.ca; have := B.de'; have := B.ed'; omega) (by have B := HB.out; have := B.ac; have := B.bb; have := B.ca; have := B.de'; have := B.ed'; omega) (by have B := HB.out; have := B.ac; have := B.bb; have := B.ca; have := B.de'; have := B.ed'; omega)).mono ?_
 rintro _ wv ⟨rfl, hb⟩
 replace M := M.keep hb
 replace A0 := A0.keep hb
 replace A1 := A1.keep hb
 clear hb
 go_wp2_with fail
 refine (product_any x.d (y.e * 19) _ hx.wd hy.ve).mono ?_
 rintro _ wv ⟨rfl, hb⟩
 replace M := M.keep hb
 replace A0 := A0.keep hb
 replace A1 := A1.keep hb
 clear hb
 go_wp2_with fail
 refine (plus_any (x.a * y.c + x.b * y.b + x.c * y.a) (x.d * (y.e * 19)) _ (by have B := HB.out; have := B.ac; have := B.bb; have := B.ca; have := B.de'; have := B.ed'; omega) (by have B := HB.out; have := B.ac; have := B.bb; have := B.ca; have := B.de'; have := B.ed'; omega) (by have B := HB.out; have := B.ac; have := B.bb; have := B.ca; have := B.de'; have := B.ed'; omega)).mono ?_
 rintro _ wv ⟨rfl, hb⟩
 replace M := M.keep hb
 replace A0 := A0.keep hb
 replace A1 := A1.keep hb
 clear hb
 go_wp2_with fail
 refine (product_any x.e (y.d * 19) _ hx.we hy.vd).mono ?_
 rintro _ wv ⟨rfl, hb⟩
 replace M := M.keep hb
 replace A0 := A0.keep hb
 replace A1 := A1.keep hb
 clear hb
 go_wp2_with fail
 refine (plus_any (x.a * y.c + x.b * y.b + x.c * y.a + x.d * (y.e * 19)) (x.e * (y.d * 19)) _ (by have B := HB.out; have := B.ac; have := B.bb; have := B.ca; have := B.de'; have := B.ed'; omega) (by have B := HB.out; have := B.ac; have := B.bb; have := B.ca; have := B.de'; have := B.ed'; omega) (by have B := HB.out; have := B.ac; have := B.bb; have := B.ca; have := B.de'; have := B.ed'; omega)).mono ?_
 rintro _ wv ⟨rfl, hb⟩
 replace M := M.keep hb
 replace A0 := A0.keep hb
 replace A1 := A1.keep hb
 clear hb
 rw [show x.a * y.c + x.b * y.b + x.c * y.a + x.d * (y.e * 19) + x.e * (y.d * 19) = m2 x y from rfl]
 go_wp2_with fail
 refine (product_any x.a y.d _ hx.wa hy.wd).mono ?_
 rintro _ wv ⟨rfl, hb⟩
 replace M := (M.keep (below_new _ _)).keep hb
 replace A0 := (A0.keep (below_new _ _)).keep hb
 replace A1 := (A1.keep (below_new _ _)).keep hb
 have A2 := (At.new _ _).keep hb
 clear hb
 go_wp2_with fail
 refine (product_any x.b y.c _ hx.wb hy.wc).mono ?_
 rintro _ wv ⟨rfl, hb⟩
 replace M := M.keep hb
 replace A0 := A0.keep hb
 replace A1 := A1.keep hb
 replace A2 := A2.keep hb
 clear hb
 go_wp2_with fail
 refine (plus_any (x.a * y.d) (x.b * y.c) _ (by have B := HB.out; have := B.ad; have := B.bc; have := B.cb; have := B.da; have := B.ee'; omega) (by have B := HB.out; have := B.ad; have := B.bc; have := B.cb; have := B.da; have := B.ee'; omega) (by have B := HB.out; have := B.ad; have := B.bc; have := B.cb; have := B.da; have := B.ee'; omega)).mono ?_
 rintro _ wv ⟨rfl, hb⟩
 replace M := M.keep hb
 replace A0 := A0.keep hb
 replace A1 := A1.keep hb
 replace A2 := A2.keep hb
 clear hb
 go_wp2_with fail
 refine (product_any x.c y.b _ hx.wc hy.wb).mono ?_
 rintro _ wv ⟨rfl, hb⟩
 replace M := M.keep hb
 replace A0 := A0.keep hb
 replace A1 := A1.keep hb
 replace A2 := A2.keep hb
 clear hb
 go_wp2_with fail
 refine (plus_any (x.a * y.d + x.b * y.c) (x.c * y.b) _ (by have B := HB.out; have := B.ad; have := B.bc; have := B.cb; have := B.da; have := B.ee'; omega) (by have B := HB.out; have := B.ad; have := B.bc; have := B.cb; have := B.da; have := B.ee'; omega) (by have B := HB.out; have := B.ad; have := B.bc; have := B.cb; have := B.da; have := B.ee'; omega)).mono ?_
 rintro _ wv ⟨rfl, hb⟩
 replace M := M.keep hb
 replace A0 := A0.keep hb
 replace A1 := A1.keep hb
 replace A2 := A2.keep hb
 clear hb
 go_wp2_with fail
 refine (product_any x.d y.a _ hx.wd hy.wa).mono ?_
 rintro _ wv ⟨rfl, hb⟩
 replace M := M.keep hb
 replace A0 := A0.keep hb
 replace A1 := A1.keep hb
 replace A2 := A2.keep hb
 clear hb
 go_wp2_with fail
 refine (plus_any (x.a * y.d + x.b * y.c + x.c * y.b) (x.d * y.a) _ (by have B := HB.out; have := B.ad; have := B.bc; have := B.cb; have := B.da; have := B.ee'; omega) (by have B := HB.out; have := B.ad; have := B.bc; have := B.cb; have := B.da; have := B.ee'; omega) (by have B := HB.out; have := B.ad; have := B.bc; have := B.cb; have := B.da; have := B.ee'; omega)).mono ?_
 rintro _ wv ⟨rfl, hb⟩
 replace M := M.keep hb
 replace A0 := A0.keep hb
 replace A1 := A1.keep hb
 replace A2 := A2.keep hb
 clear hb
 go_wp2_with fail
 refine (product_any x.e (y.e * 19) _ hx.we hy.ve).mono ?_
 rintro _ wv ⟨rfl, hb⟩
 replace M := M.keep hb
 replace A0 := A0.keep hb
 replace A1 := A1.keep hb
 replace A2 := A2.keep hb
 clear hb
 go_wp2_with fail
 refine (plus_any (x.a * y.d + x.b * y.c + x.c * y.b + x.d * y.a) (x.e * (y.e * 19)) _ (by have B := HB.out; have := B.ad; have := B.bc; have := B.cb; have := B.da; have := B.ee'; omega) (by have B := HB.out; have := B.ad; have := B.bc; have := B.cb; have := B.da; have := B.ee'; omega) (by have B := HB.out; have := B.ad; have := B.bc; have := B.cb; have := B.da; have := B.ee'; omega)).mono ?_
 rintro _ wv ⟨rfl, hb⟩
 replace M := M.keep hb
 replace A0 := A0.keep hb
 replace A1 := A1.keep hb
 replace A2 := A2.keep hb
 clear hb
 rw [show x.a * y.d + x.b * y.c + x.c * y.b + x.d * y.a + x.e * (y.e * 19) = m3 x y from rfl]
 go_wp2_with fail
 refine (product_any x.a y.e _ hx.wa hy.we).mono ?_
 rintro _ wv ⟨rfl, hb⟩
 replace M := (M.keep (below_new _ _)).keep hb
 replace A0 := (A0.keep (below_new _ _)).keep hb
 replace A1 := (A1.keep (below_new _ _)).keep hb
 replace A2 := (A2.keep (below_new _ _)).keep hb
 have A3 := (At.new _ _).keep hb
 clear hb
 go_wp2_with fail
 refine (product_any x.b y.d _ hx.wb hy.wd).mono ?_
 rintro _ wv ⟨rfl, hb⟩
 replace M := M.keep hb
 replace A0 := A0.keep hb
 replace A1 := A1.keep hb
 replace A2 := A2.keep hb
 replace A3 := A3.keep hb
 clear hb
 go_wp2_with fail
 refine (plus_any (x.a * y.e) (x.b * y.d) _ (by have B := HB.out; have := B.ae; have := B.bd; have := B.cc; have := B.db; have := B.ea; omega) (by have B := HB.out; have := B.ae; have := B.bd; have := B.cc; have := B.db; have := B.ea; omega) (by have B := HB.out; have := B.ae; have := B.bd; have := B.cc; have := B.db; have := B.ea; omega)).mono ?_
 rintro _ wv ⟨rfl, hb⟩
 replace M := M.keep hb
 replace A0 := A0.keep hb
 replace A1 := A1.keep hb
 replace A2 := A2.keep hb
 replace A3 := A3.keep hb
 clear hb
 go_wp2_with fail
 refine (product_any x.c y.c _ hx.wc hy.wc).mono ?_
 rintro _ wv ⟨rfl, hb⟩
 replace M := M.keep hb
 replace A0 := A0.keep hb
 replace A1 := A1.keep hb
 replace A2 := A2.keep hb
 replace A3 := A3.keep hb
 clear hb
 go_wp2_with fail
 refine (plus_any (x.a * y.e + x.b * y.d) (x.c * y.c) _ (by have B := HB.out; have := B.ae; have := B.bd; have := B.cc; have := B.db; have := B.ea; omega) (by have B := HB.out; have := B.ae; have := B.bd; have := B.cc; have := B.db; have := B.ea; omega) (by have B := HB.out; have := B.ae; have := B.bd; have := B.cc; have := B.db; have := B.ea; omega)).mono ?_
 rintro _ wv ⟨rfl, hb⟩
 replace M := M.keep hb
 replace A0 := A0.keep hb
 replace A1 := A1.keep hb
 replace A2 := A2.keep hb
 replace A3 := A3.keep hb
 clear hb
 go_wp2_with fail
 refine (product_any x.d y.b _ hx.wd hy.wb).mono ?_
 rintro _ wv ⟨rfl, hb⟩
 replace M := M.keep hb
 replace A0 := A0.keep hb
 replace A1 := A1.keep hb
 replace A2 := A2.keep hb
 replace A3 := A3.keep hb
 clear hb
 go_wp2_with fail
 refine (plus_any (x.a * y.e + x.b * y.d + x.c * y.c) (x.d * y.b) _ (by have B := HB.out; have := B.ae; have := B.bd; have := B.cc; have := B.db; have := B.ea; omega) (by have B := HB.out; have := B.ae; have := B.bd; have := B.cc; have := B.db; have := B.ea; omega) (by have B := HB.out; have := B.ae; have := B.bd; have := B.cc; have := B.db; have := B.ea; omega)).mono ?_
 rintro _ wv ⟨rfl, hb⟩
 replace M := M.keep hb
 replace A0 := A0.keep hb
 replace A1 := A1.keep hb
 replace A2 := A2.keep hb
 replace A3 := A3.keep hb
 clear hb
 go_wp2_with fail
 refine (product_any x.e y.a _ hx.we hy.wa).mono ?_
 rintro _ wv ⟨rfl, hb⟩
 replace M := M.keep hb
 replace A0 := A0.keep hb
 replace A1 := A1.keep hb
 replace A2 := A2.keep hb
 replace A3 := A3.keep hb
 clear hb
 go_wp2_with fail
 refine (plus_any (x.a * y.e + x.b * y.d + x.c * y.c + x.d * y.b) (x.e * y.a) _ (by have B := HB.out; have := B.ae; have := B.bd; have := B.cc; have := B.db; have := B.ea; omega) (by have B := HB.out; have := B.ae; have := B.bd; have := B.cc; have := B.db; have := B.ea; omega) (by have B := HB.out; have := B.ae; have := B.bd; have := B.cc; have := B.db; have := B.ea; omega)).mono ?_
 rintro _ wv ⟨rfl, hb⟩
 replace M := M.keep hb
 replace A0 := A0.keep hb
 replace A1 := A1.keep hb
 replace A2 := A2.keep hb
 replace A3 := A3.keep hb
 clear hb
 rw [show x.a * y.e + x.b * y.d + x.c * y.c + x.d * y.b + x.e * y.a = m4 x y from rfl]
 go_wp2_with fail
 have bn := below_new wv (.cells #[.int .u64 (m4 x y / 18446744073709551616), .int .u64 (m4 x y % 18446744073709551616)] 211)
 replace M := M.keep bn
 replace A0 := A0.keep bn
 replace A1 := A1.keep bn
 replace A2 := A2.keep bn
 replace A3 := A3.keep bn
 have A4 := At.new wv (m4 x y)
 clear bn
 obtain ⟨W9, hW9⟩ : ∃ W9, wv.alloc (.cells #[.int .u64 (m4 x y / 18446744073709551616), .int .u64 (m4 x y % 18446744073709551616)] 211) = W9 := ⟨_, rfl⟩
 rw [hW9] at M A0 A1 A2 A3 A4
 rw [hW9]
 clear hW9
 obtain ⟨⟨Z0, Y0⟩, ⟨Z1, Y1⟩, ⟨Z2, Y2⟩, ⟨Z3, Y3⟩, ⟨Z4, Y4⟩⟩ := HS.out
 have HF := hide (show mulF x y = car (m0 x y % 2251799813685248 + m4 x y / 2251799813685248 * 19) (m1 x y % 2251799813685248 + m0 x y / 2251799813685248) (m2 x y % 2251799813685248 + m1 x y / 2251799813685248) (m3 x y % 2251799813685248 + m2 x y / 2251799813685248) (m4 x y % 2251799813685248 + m3 x y / 2251799813685248) from rfl)
 clear HS HB hx hy
 generalize m0 x y = n0 at *
 generalize m1 x y = n1 at *
 generalize m2 x y = n2 at *
 generalize m3 x y = n3 at *
 generalize m4 x y = n4 at *
 have k0 := fun s : KW W9 => (A0.keep s.keep).c0
 have l0 := fun s : KW W9 => (A0.keep s.keep).c1
 have k1 := fun s : KW W9 => (A1.keep s.keep).c0
 have l1 := fun s : KW W9 => (A1.keep s.keep).c1
 have k2 := fun s : KW W9 => (A2.keep s.keep).c0
 have l2 := fun s : KW W9 => (A2.keep s.keep).c1
 have k3 := fun s : KW W9 => (A3.keep s.keep).c0
 have l3 := fun s : KW W9 => (A3.keep s.keep).c1
 have k4 := fun s : KW W9 => (A4.keep s.keep).c0
 have l4 := fun s : KW W9 => (A4.keep s.keep).c1
 clear A0 A1 A2 A3 A4
 have hne : Nonempty (KW W9) := ⟨⟨W9, Below.refl _ _⟩⟩
 refine wp_region_keep_tail 27 (by kernel_rfl) (by kernel_rfl) ?_
 simp only [List.take_succ_cons, List.take_zero, List.drop_succ_cons, List.drop_zero]
 repeat (go_big_quiet_step (first | (go_at_call 152; exact keep_of (below_any _ _)) | (go_at_call 153; exact keep_of (above_any _ _ (by omega) (by omega))) | (go_at_call 122; exact keep_of (carried_any _ _ _ _ _ _ ⟨by omega, by omega⟩ ⟨by omega, by omega⟩ ⟨by omega, by omega⟩ ⟨by omega, by omega⟩ ⟨by omega, by omega⟩))))
 refine wpQuiet_nil ?_
 intro s
 have HE := HF.out
 rw [← HE]
 replace M := M.keep s.keep
 generalize s.w = W' at M ⊢
 generalize hz : mulF x y = z at HE ⊢
 have H := hide hz
 clear HE HF hz k0 k1 k2 k3 k4 l0 l1 l2 l3 l4 hne
 have H3 := hide M.old
 obtain ⟨_, hs, hf, c0, c1, c2, c3, c4⟩ := M
 clear Z0 Z1 Z2 Z3 Z4 Y0 Y1 Y2 Y3 Y4
 go_wp2
 refine bodyPost_ret (v := z.v) (by simp [results, Tryz.results117, go_sem, c0, c1, c2, c3, c4]) rfl ⟨by rw [H.out], ?_⟩
 exact set5 H3.out (by omega)
open Go.RowKit
def squaresF : Nat → E5 → E5
 | 0, x => x
 | n + 1, x => squaresF n (mulF x x)
theorem squaresF_ok : ∀ (n : Nat) {x : E5}, x.Ok → (squaresF n x).Ok
 | 0, _, h => h
 | n + 1, _, h => squaresF_ok n (mulF_ok h h)
theorem squares_any (n : Nat) : ∀ (x : E5) (w : World), x.Ok → n < 1000000 →
  Calls Tryz.prog 155 #[x.v, .int .u64 n] w fun r w' => r = .returned (squaresF n x).v ∧ Below w.heap.size w w' := by
 induction n with
 | zero =>
  intro x w hx _
  go_enter Tryz.func155, Tryz.ntmps155
  go_wp2
  exact bodyPost_ret (v := x.v) (by simp [results, Tryz.results155, go_sem]) rfl ⟨rfl, ((Below.refl _ _).alloc (Nat.le_refl _) _).alloc (by simp) _⟩
 | succ n ih =>
  intro x w hx hn
  have HI := hide ih
  clear ih
  have h0 : (((n + 1 : Nat) : Int) == 0) = false := beq_eq_false_iff_ne.2 (by omega)
  have e : ((n + 1 : Nat) : Int) = (n : Int) + 1 := by omega
  rw [e] at h0
  rw [e]
  go_enter Tryz.func155, Tryz.ntmps155
  go_wp2_with fail
  have R := Out.start1 w (.cells #[.int .u64 x.a, .int .u64 x.b, .int .u64 x.c, .int .u64 x.d, .int .u64 x.e] 143)
  refine (mul_any x x _ hx hx).mono ?_
  rintro _ w1 ⟨rfl, hb⟩
  replace R := R.keep hb
  clear hb
  go_wp2_with fail
  refine (HI.out (mulF x x) _ (mulF_ok hx hx) (by omega)).mono ?_
  rintro _ w2 ⟨rfl, hb⟩
  replace R := R.keep hb
  clear hb HI
  rw [show squaresF n (mulF x x) = squaresF (n + 1) x from rfl]
  generalize hz : squaresF (n + 1) x = z
  have H := hide hz
  obtain ⟨old, ge, hs, hf, c0, c1, c2, c3, c4⟩ := R
  have O := hide old
  clear old hz
  go_wp2
  refine bodyPost_ret (v := z.v) (by simp [results, Tryz.results155, go_sem, c0, c1, c2, c3, c4]) rfl ⟨by rw [H.out], ?_⟩
  exact five O.out ge
open Go.RowKit
attribute [local go_sem] keepOp keepAt keepUpon
def onesF (x : E5) : Nat → Nat → E5
 | 0, _ => smallF 1
 | f + 1, n => if n = 0 then smallF 1 else
  if n % 2 = 0 then mulF (squaresF (n / 2) (onesF x f (n / 2))) (onesF x f (n / 2))
  else mulF (squaresF 1 (mulF (squaresF (n / 2) (onesF x f (n / 2))) (onesF x f (n / 2)))) x
theorem onesF_ok {x : E5} (hx : x.Ok) : ∀ (f n : Nat), (onesF x f n).Ok
 | 0, _ => smallF_ok (by decide) (by decide)
 | f + 1, n => by
  have h := onesF_ok hx f (n / 2)
  unfold onesF
  split
  ·exact smallF_ok (by decide) (by decide)
  ·split
   ·exact mulF_ok (squaresF_ok _ h) h
   ·exact mulF_ok (squaresF_ok _ (mulF_ok (squaresF_ok _ h) h)) hx
theorem squares_half (n : Nat) (x : E5) (w : World) (hx : x.Ok) (hn : n < 1000000) : Calls Tryz.prog 155 #[x.v, .int .u64 ((n : Int) / 2)] w fun r w' => r = .returned (squaresF (n / 2) x).v ∧ Below w.heap.size w w' := by
 rw [show (n : Int) / 2 = ((n / 2 : Nat) : Int) from by omega]
 exact squares_any (n / 2) x w hx (by omega)
theorem squares_1 (x : E5) (w : World) (hx : x.Ok) : Calls Tryz.prog 155 #[x.v, .int .u64 1] w fun r w' => r = .returned (squaresF 1 x).v ∧ Below w.heap.size w w' := squares_any 1 x w hx (by decide)
theorem squares_3 (x : E5) (w : World) (hx : x.Ok) : Calls Tryz.prog 155 #[x.v, .int .u64 3] w fun r w' => r = .returned (squaresF 3 x).v ∧ Below w.heap.size w w' := squares_any 3 x w hx (by decide)
theorem squares_5 (x : E5) (w : World) (hx : x.Ok) : Calls Tryz.prog 155 #[x.v, .int .u64 5] w fun r w' => r = .returned (squaresF 5 x).v ∧ Below w.heap.size w w' := squares_any 5 x w hx (by decide)
theorem ones_any (x : E5) (hx : x.Ok) (f : Nat) : ∀ (n : Nat) (w : World), n < 2 ^ f → n < 1000000 →
  Calls Tryz.prog 154 #[x.v, .int .u64 n] w fun r w' => r = .returned (onesF x f n).v ∧ Below w.heap.size w w' := by
 induction f with
 | zero =>
  intro n w hn _
  have e : n = 0 := by omega
  subst e
  go_enter Tryz.func154, Tryz.ntmps154
  go_wp2_with fail
  have R := Out.start1 w (.cells #[.int .u64 x.a, .int .u64 x.b, .int .u64 x.c, .int .u64 x.d, .int .u64 x.e] 143)
  refine (small_any 1 _ (by decide) (by decide)).mono ?_
  rintro _ w1 ⟨rfl, hb⟩
  replace R := R.keep hb
  clear hb
  rw [show smallF 1 = onesF x 0 0 from rfl]
  generalize hz : onesF x 0 0 = z
  have H := hide hz
  obtain ⟨old, ge, hs, hf, c0, c1, c2, c3, c4⟩ := R
  have O := hide old
  clear old hz
  go_wp2
  refine bodyPost_ret (v := z.v) (by simp [results, Tryz.results154, go_sem, c0, c1, c2, c3, c4]) rfl ⟨by rw [H.out], ?_⟩
  exact five O.out ge
 | succ f ih =>
  intro n w hn hlt
  have HI := hide ih
  clear ih
  by_cases h0 : n = 0
  ·subst h0
   go_enter Tryz.func154, Tryz.ntmps154
   go_wp2_with fail
   have R := Out.start1 w (.cells #[.int .u64 x.a, .int .u64 x.b, .int .u64 x.c, .int .u64 x.d, .int .u64 x.e] 143)
   refine (small_any 1 _ (by decide) (by decide)).mono ?_
   rintro _ w1 ⟨rfl, hb⟩
   replace R := R.keep hb
   clear hb
   have e : onesF x (f + 1) 0 = smallF 1 := by simp [onesF]
   rw [← e]
   generalize hz : onesF x (f + 1) 0 = z
   have H := hide hz
   obtain ⟨old, ge, hs, hf, c0, c1, c2, c3, c4⟩ := R
   have O := hide old
   clear old hz e
   go_wp2
   refine bodyPost_ret (v := z.v) (by simp [results, Tryz.results154, go_sem, c0, c1, c2, c3, c4]) rfl ⟨by rw [H.out], ?_⟩
   exact five O.out ge
  ·have b0 : ((n : Int) == 0) = false := beq_eq_false_iff_ne.2 (by omega)
   have hp : n / 2 < 2 ^ f := by
    have : 2 ^ (f + 1) = 2 * 2 ^ f := by rw [Nat.pow_succ, Nat.mul_comm]
    omega
   have ok := onesF_ok hx f (n / 2)
   by_cases hodd : n % 2 = 0
   all_goals
    go_enter Tryz.func154, Tryz.ntmps154
    go_wp2_with fail
    have R := Out.start1 w (.cells #[.int .u64 x.a, .int .u64 x.b, .int .u64 x.c, .int .u64 x.d, .int .u64 x.e] 143)
    have A := EAt.new1 w x (.cells #[.int .u64 0, .int .u64 0, .int .u64 0, .int .u64 0, .int .u64 0] 143)
    rw [show (n : Int) / 2 = ((n / 2 : Nat) : Int) from by omega]
    refine (HI.out (n / 2) _ hp (by omega)).mono ?_
    rintro _ w1 ⟨rfl, hb⟩
    replace R := R.keep hb
    replace A := A.keep hb
    clear hb HI
    have he : onesF x (f + 1) n = if n % 2 = 0 then mulF (squaresF (n / 2) (onesF x f (n / 2))) (onesF x f (n / 2)) else mulF (squaresF 1 (mulF (squaresF (n / 2) (onesF x f (n / 2))) (onesF x f (n / 2)))) x := by
     rw [onesF, if_neg h0]
    first | rw [if_pos hodd] at he | rw [if_neg hodd] at he
    have HE := hide he
    clear he
    generalize onesF x f (n / 2) = half at *
    go_wp2_with fail
    replace R := R.keep (new_below w1 (.cells #[.int .u64 half.a, .int .u64 half.b, .int .u64 half.c, .int .u64 half.d, .int .u64 half.e] 143))
    replace A := A.keep (new_below w1 (.cells #[.int .u64 half.a, .int .u64 half.b, .int .u64 half.c, .int .u64 half.d, .int .u64 half.e] 143))
    have B := EAt.new w1 half 143
    generalize w1.heap.size = g at *
    generalize w1.alloc (.cells #[.int .u64 half.a, .int .u64 half.b, .int .u64 half.c, .int .u64 half.d, .int .u64 half.e] 143) = W at *
    have hne := KW.some W
    have a0 := B.k0
    have a1 := B.k1
    have a2 := B.k2
    have a3 := B.k3
    have a4 := B.k4
    refine wp_region_keep_alloc (Z := .cells #[.int .u64 0, .int .u64 0, .int .u64 0, .int .u64 0, .int .u64 0] 143) 6 (by kernel_rfl) (by kernel_rfl) rfl rfl (fun _ _ => by kernel_rfl) ?_
    simp only [List.take_succ_cons, List.take_zero, List.drop_succ_cons, List.drop_zero]
    refine wpK_step (fun K hK => ?_)
    go_simp
    refine hK _ ?_
    clear hK K
    refine wpK_step (fun K hK => ?_)
    go_simp
    refine hK _ ?_
    clear hK K
    refine wpK_step (fun K hK => ?_)
    go_simp
    refine hK _ ?_
    clear hK K
    rw [show IntKind.u64.wrap ((n : Int) / 2) = (n : Int) / 2 from wrap64u ⟨by omega, by omega⟩]
    refine wpK_step (fun K hK => ?_)
    go_simp
    refine ⟨_, fun s => squares_half n half _ ok hlt, hK _ ?_⟩
    clear hK K
    refine wpK_step (fun K hK => ?_)
    go_simp
    refine hK _ ?_
    clear hK K
    refine wpK_step (fun K hK => ?_)
    go_simp
    refine ⟨_, fun s => mul_any _ _ _ (squaresF_ok _ ok) ok, hK _ ?_⟩
    clear hK K
    refine wpK_nil ?_
    intro W1 gb hb1 hb2 hb3 a2 ha2
    simp [go_sem] at ha2
    subst ha2
    clear a0 a1 a2 a3 a4 hne
    have sz := A.size
    have sz2 := R.lie.size
    replace R := R.keep hb1
    replace A := A.keep hb1
    have G := EAt.of_zero hb3
    clear B hb1 hb3
    have ok2 := mulF_ok (squaresF_ok (n / 2) ok) ok
    generalize mulF (squaresF (n / 2) half) half = even at *
    have n1 : ¬ w.heap.size + 1 = gb := by omega
    have n2 : ¬ gb = w.heap.size + 1 := by omega
    have GE := G.put even
    obtain ⟨gs, gf, g0, g1, g2, g3, g4⟩ := G
    have ev : ((n : Int) % 2 == 0) = decide (n % 2 = 0) := by rw [Bool.eq_iff_iff]; simp; omega
   ·rw [decide_eq_true hodd] at ev
    obtain ⟨old, ge, hs, hf, c0, c1, c2, c3, c4⟩ := R
    have O := hide old
    clear old A GE hn h0 hp
    go_wp2_with fail
    refine bodyPost_ret (v := even.v) (by simp [results, Tryz.results154, go_sem, c0, c1, c2, c3, c4]) rfl ⟨by rw [HE.out], ?_⟩
    exact five (five O.out (by omega)) ge
   ·rw [decide_eq_false hodd] at ev
    have RR := hide (R.other (k := gb) (by omega) (by omega) even)
    have AA := hide (A.other (k := gb) (by omega) even)
    have BB := hide GE
    clear A R GE
    go_wp2_with fail
    replace R := RR.out
    replace A := AA.out
    replace B := BB.out
    clear RR AA BB gs gf g0 g1 g2 g3 g4
    obtain ⟨W2, hW2⟩ : ∃ W2, put5 W1 gb even = W2 := ⟨_, rfl⟩
    rw [hW2] at R A B
    rw [show (((((W1.setCell ⟨gb, 0, none⟩ (.int .u64 even.a)).setCell ⟨gb, 1, none⟩ (.int .u64 even.b)).setCell ⟨gb, 2, none⟩ (.int .u64 even.c)).setCell ⟨gb, 3, none⟩ (.int .u64 even.d)).setCell ⟨gb, 4, none⟩ (.int .u64 even.e)) = W2 from hW2]
    clear hW2
    have hne := KW.some W2
    have a0 := B.k0
    have a1 := B.k1
    have a2 := B.k2
    have a3 := B.k3
    have a4 := B.k4
    have b0 := A.k0
    have b1 := A.k1
    have b2 := A.k2
    have b3 := A.k3
    have b4 := A.k4
    clear A B
    refine wp_region_keep_tail 4 (by kernel_rfl) (by kernel_rfl) ?_
    simp only [List.take_succ_cons, List.take_zero, List.drop_succ_cons, List.drop_zero]
    repeat (go_big_quiet_step (first | (go_at_call 155; exact keep_of (squares_1 even _ ok2)) | (go_at_call 117; exact keep_of (mul_any _ _ _ (squaresF_ok _ ok2) hx))))
    refine wpQuiet_nil ?_
    intro s
    clear a0 a1 a2 a3 a4 b0 b1 b2 b3 b4 hne
    replace R := R.keep s.keep
    generalize s.w = W3 at R ⊢
    generalize mulF (squaresF 1 even) x = z at *
    obtain ⟨old, ge, hs, hf, c0, c1, c2, c3, c4⟩ := R
    have O := hide old
    clear old
    go_wp2
    refine bodyPost_ret (v := z.v) (by simp [results, Tryz.results154, go_sem, c0, c1, c2, c3, c4]) rfl ⟨by rw [HE.out], ?_⟩
    exact five O.out ge
open Go.RowKit
def eqw (f g : NI) : Nat → Nat → Bool
 | _, 0 => true
 | k, m + 1 => (f k == g k) && eqw f g (k + 1) m
theorem run_eqs_from (d n : Nat) (f g : NI) (w : World) : ∀ (m k : Nat), k + m ≤ n →
  Sem.run Tryz.prog (forIn (List.range' k m 1) ((none, ()) : Option Bool × Unit) fun i _ => do
   let a ← part 33 (arr n f) i
   let b ← part 33 (arr n g) i
   let r ← Op.equalIn (d + 1) 33 a b
   if (!r) = true then pure (ForInStep.done (some false, ())) else pure (ForInStep.yield (none, ()))) w = .ok (if eqw f g k m = true then none else some false, ()) w := by
 intro m
 induction m with
 | zero => intro k _; simp [eqw, Sem.run_pure]
 | succ m ih =>
  intro k hk
  have hp : ∀ h : Nat → Int, (part 33 (arr n h) k).run Tryz.prog w = .ok (.int .u64 (h k)) w := fun h => by
   have ha : (isAgg 33).run Tryz.prog w = .ok false w := by kernel_rfl
   simp [part, Sem.run_bind, ha, arr_get n h k (by omega)]
  simp only [List.range'_succ, List.forIn_cons, Sem.run_bind, hp, Result.andThen_ok, run_equalIn_int w d 33 .u64 .u64 (f k) (g k) Tryz.underlying33]
  cases hc : (f k == g k)
  ·simp [eqw, hc, Sem.run_pure]
  ·simp only [Bool.not_true, Bool.false_eq_true, if_false, Sem.run_pure, Result.andThen_ok, eqw, hc, Bool.true_and]
   exact ih (k + 1) (by omega)
theorem run_equalIn_words (d : Nat) (t : TypeId) (n : Nat) (f g : NI) (w : World) (ht : Tryz.prog.underlying t = some (.array n 33)) :
  (Op.equalIn (d + 1 + 1) t (.agg (arr n f)) (.agg (arr n g))).run Tryz.prog w = .ok (eqw f g 0 n) w := by
 have hz : (sizeOf 33).run Tryz.prog w = .ok 1 w := by kernel_rfl
 rw [Op.equalIn]
 simp only [Sem.run_bind, run_underlying ht, Result.andThen_ok, hz, Nat.mul_one]
 rw [Std.Legacy.Range.forIn_eq_forIn_range']
 have e : ([:n] : Std.Legacy.Range).size = n := by simp [Std.Legacy.Range.size]
 rw [e]
 have h := run_eqs_from d n f g w n 0 (by omega)
 rw [h]
 cases hc : eqw f g 0 n <;> simp [Sem.run_pure]
theorem run_eql_words (t : TypeId) (n : Nat) (f g : NI) (w : World) (ht : Tryz.prog.underlying t = some (.array n 33)) :
  (binOp .eql t (.agg (arr n f)) (.agg (arr n g))).run Tryz.prog w = .ok (.bool (eqw f g 0 n)) w := by
 rw [run_eql_struct, run_equalIn_words 9998 t n f g w ht]
 rfl
def E5.fn (x : E5) (i : Nat) : Int := [x.a, x.b, x.c, x.d, x.e].getD i 0
def eq5 (x y : E5) : Bool := eqw x.fn y.fn 0 5
theorem run_eql_e5 (x y : E5) (w : World) : (binOp .eql 141 x.v y.v).run Tryz.prog w = .ok (.bool (eq5 x y)) w :=
 run_eql_words 141 5 x.fn y.fn w Tryz.underlying141
theorem eq5_iff (x y : E5) : eq5 x y = true ↔ x = y := by
 obtain ⟨a, b, c, d, e⟩ := x
 obtain ⟨f, g, h, i, j⟩ := y
 simp only [eq5, eqw, E5.fn, E5.mk.injEq]
 simp
theorem eqw_iff (f g : NI) : ∀ (m k : Nat), eqw f g k m = true ↔ ∀ i, k ≤ i → i < k + m → f i = g i := by
 intro m
 induction m with
 | zero => intro k; simp only [eqw]; exact ⟨fun _ i h1 h2 => by omega, fun _ => trivial⟩
 | succ m ih =>
  intro k
  simp only [eqw, Bool.and_eq_true, beq_iff_eq, ih (k + 1)]
  constructor
  ·intro h i h1 h2
   by_cases e : i = k
   ·rw [e]; exact h.1
   ·exact h.2 i (by omega) (by omega)
  ·intro h
   exact ⟨h k (by omega) (by omega), fun i h1 h2 => h i (by omega) (by omega)⟩
open Go.RowKit
theorem low_inj {x y : E5} (hx : x.Low) (hy : y.Low) (h : x.n = y.n) : x = y := by
 obtain ⟨a, b, c, d, e⟩ := x
 obtain ⟨f, g, i, j, k⟩ := y
 obtain ⟨a0, a1, b0, b1, c0, c1, d0, d1, e0, e1⟩ := hx
 obtain ⟨f0, f1, g0, g1, h0, h1, i0, i1, j0, j1⟩ := hy
 simp only [E5.n] at *
 have h1 : a = f := by omega
 have h2 : b = g := by omega
 have h3 : c = i := by omega
 have h4 : d = j := by omega
 have h5 : e = k := by omega
 rw [h1, h2, h3, h4, h5]
theorem sameR {x y : E5} (hx : x.Ok) (hy : y.Ok) : eq5 (leastF x) (leastF y) = (x.n % Pm == y.n % Pm) := by
 rw [Bool.eq_iff_iff, eq5_iff, beq_iff_eq, ← leastF_n hx, ← leastF_n hy]
 exact ⟨fun h => by rw [h], fun h => low_inj (leastF_low x) (leastF_low y) h⟩
theorem same_any (x y : E5) (w : World) (hx : x.Ok) (hy : y.Ok) : Cs 94 #[x.v, y.v] w (.bool (x.n % Pm == y.n % Pm)) := by
 have hg : Tryz.prog.eqGuardType Tryz.prog.depth 141 = false := by kernel_rfl
 have he := run_eql_e5 (leastF x) (leastF y)
 go_enter Tryz.func94, Tryz.ntmps94
 go_wp2_with fail
 have A := (EAt.new w x 143).alloc (.cells #[.int .u64 y.a, .int .u64 y.b, .int .u64 y.c, .int .u64 y.d, .int .u64 y.e] 143)
 have B := EAt.new (w.alloc (.cells #[.int .u64 x.a, .int .u64 x.b, .int .u64 x.c, .int .u64 x.d, .int .u64 x.e] 143)) y 143
 rw [World.size_alloc] at B
 have O := hide (((Below.refl w.heap.size w).alloc (Nat.le_refl _) (.cells #[.int .u64 x.a, .int .u64 x.b, .int .u64 x.c, .int .u64 x.d, .int .u64 x.e] 143)).alloc (by simp) (.cells #[.int .u64 y.a, .int .u64 y.b, .int .u64 y.c, .int .u64 y.d, .int .u64 y.e] 143))
 generalize (w.alloc (.cells #[.int .u64 x.a, .int .u64 x.b, .int .u64 x.c, .int .u64 x.d, .int .u64 x.e] 143)).alloc (.cells #[.int .u64 y.a, .int .u64 y.b, .int .u64 y.c, .int .u64 y.d, .int .u64 y.e] 143) = W at A B O ⊢
 have hne := KW.some W
 have c0 := A.k0
 have d0 := B.k0
 have c1 := A.k1
 have d1 := B.k1
 have c2 := A.k2
 have d2 := B.k2
 have c3 := A.k3
 have d3 := B.k3
 have c4 := A.k4
 have d4 := B.k4
 clear A B
 refine wp_region_keep (by kernel_rfl) (by kernel_rfl) ?_
 repeat (go_big_quiet_step ((go_at_call 119; exact keep_of (least_any _ _ (by first | exact hx | exact hy)))))
 refine wpQuiet_nil ?_
 intro s
 have hw := O.out.trans (s.keep.mono O.out.size)
 have HR := hide (sameR hx hy)
 clear he hg c0 c1 c2 c3 c4 d0 d1 d2 d3 d4 O hne
 go_wp2
 go_ret
 exact ⟨by rw [← HR.out]; rfl, hw⟩
open Go.RowKit
theorem ones_250 (x : E5) (w : World) (hx : x.Ok) : Calls Tryz.prog 154 #[x.v, .int .u64 250] w fun r w' => r = .returned (onesF x 8 250).v ∧ Below w.heap.size w w' := ones_any x hx 8 250 w (by decide) (by decide)
theorem ones_2 (x : E5) (w : World) (hx : x.Ok) : Calls Tryz.prog 154 #[x.v, .int .u64 2] w fun r w' => r = .returned (onesF x 8 2).v ∧ Below w.heap.size w w' := ones_any x hx 8 2 w (by decide) (by decide)
def invF (x : E5) : E5 := mulF (mulF (squaresF 5 (onesF x 8 250)) (squaresF 3 x)) (onesF x 8 2)
theorem invF_ok {x : E5} (hx : x.Ok) : (invF x).Ok := mulF_ok (mulF_ok (squaresF_ok _ (onesF_ok hx _ _)) (squaresF_ok _ hx)) (onesF_ok hx _ _)
theorem inv_any (x : E5) (w : World) (hx : x.Ok) : Calls Tryz.prog 118 #[x.v] w fun r w' => r = .returned (invF x).v ∧ Below w.heap.size w w' := by
 have k1 := onesF_ok hx 8 250
 have k2 := onesF_ok hx 8 2
 have HE := hide (show invF x = mulF (mulF (squaresF 5 (onesF x 8 250)) (squaresF 3 x)) (onesF x 8 2) from rfl)
 go_enter Tryz.func118, Tryz.ntmps118
 go_wp2_with fail
 have R := Out.start1 w (.cells #[.int .u64 x.a, .int .u64 x.b, .int .u64 x.c, .int .u64 x.d, .int .u64 x.e] 143)
 have A := EAt.new1 w x (.cells #[.int .u64 0, .int .u64 0, .int .u64 0, .int .u64 0, .int .u64 0] 143)
 generalize (w.alloc (.cells #[.int .u64 x.a, .int .u64 x.b, .int .u64 x.c, .int .u64 x.d, .int .u64 x.e] 143)).alloc (.cells #[.int .u64 0, .int .u64 0, .int .u64 0, .int .u64 0, .int .u64 0] 143) = W at R A ⊢
 have hne := KW.some W
 have a0 := A.k0
 have a1 := A.k1
 have a2 := A.k2
 have a3 := A.k3
 have a4 := A.k4
 clear A
 refine wp_region_keep_tail 9 (by kernel_rfl) (by kernel_rfl) ?_
 simp only [List.take_succ_cons, List.take_zero, List.drop_succ_cons, List.drop_zero]
 iterate 1 go_big_quiet_step (fail)
 go_big_quiet_step ((exact keep_of (ones_250 x _ hx)))
 generalize onesF x 8 250 = y1 at *
 go_big_quiet_step ((exact keep_of (squares_5 y1 _ k1)))
 have k3 := squaresF_ok 5 k1
 generalize squaresF 5 y1 = y2 at *
 go_big_quiet_step (fail)
 go_big_quiet_step ((exact keep_of (squares_3 x _ hx)))
 have k4 := squaresF_ok 3 hx
 generalize squaresF 3 x = y3 at *
 go_big_quiet_step ((exact keep_of (mul_any y2 y3 _ k3 k4)))
 have k5 := mulF_ok k3 k4
 generalize mulF y2 y3 = y4 at *
 go_big_quiet_step (fail)
 go_big_quiet_step ((exact keep_of (ones_2 x _ hx)))
 generalize onesF x 8 2 = y5 at *
 go_big_quiet_step ((exact keep_of (mul_any y4 y5 _ k5 k2)))
 generalize mulF y4 y5 = z at *
 refine wpQuiet_nil ?_
 intro s
 clear a0 a1 a2 a3 a4 hne k1 k2 k3 k4 k5
 replace R := R.keep s.keep
 generalize s.w = W3 at R ⊢
 obtain ⟨old, ge, hs, hf, c0, c1, c2, c3, c4⟩ := R
 have O := hide old
 clear old
 go_wp2
 refine bodyPost_ret (v := z.v) (by simp [results, Tryz.results118, go_sem, c0, c1, c2, c3, c4]) rfl ⟨by rw [HE.out], ?_⟩
 exact five O.out ge
open Go.RowKit
def sqz (y : Int) : Nat → Int
 | 0 => y
 | n + 1 => sqz (y * y) n
def onz (x : Int) : Nat → Int
 | 0 => 1
 | k + 1 => onz x k * onz x k * x
theorem sqz_succ (n : Nat) : ∀ y, sqz y (n + 1) = sqz y n * sqz y n := by
 induction n with
 | zero => intro y; rfl
 | succ n ih => intro y; exact ih (y * y)
theorem onz_add (x : Int) (m : Nat) : ∀ k, onz x (m + k) = sqz (onz x m) k * onz x k
 | 0 => by simp [sqz, onz]
 | k + 1 => by
  have ih := onz_add x m k
  rw [← Nat.add_assoc]
  simp only [onz]
  rw [ih, sqz_succ]
  generalize sqz (onz x m) k = a
  generalize onz x k = b
  simp only [Int.mul_assoc, Int.mul_left_comm b a]
theorem sqz_cg {y z : Int} : ∀ {n : Nat}, Cg y z → Cg (sqz y n) (sqz z n) := by
 intro n
 induction n generalizing y z with
 | zero => intro h; exact h
 | succ n ih => intro h; exact ih (h.mul h)
theorem squaresF_n : ∀ (n : Nat) (x : E5), Cg (squaresF n x).n (sqz x.n n)
 | 0, _ => Cg.refl _
 | n + 1, x => (squaresF_n n (mulF x x)).trans (sqz_cg (mulF_n x x))
theorem onesF_n (x : E5) : ∀ (f n : Nat), n < 2 ^ f → Cg (onesF x f n).n (onz x.n n) := by
 intro f
 induction f with
 | zero =>
  intro n h
  have e : n = 0 := by omega
  subst e
  exact smallF_n 1
 | succ f ih =>
  intro n h
  unfold onesF
  by_cases h0 : n = 0
  ·rw [if_pos h0]
   subst h0
   exact smallF_n 1
  ·rw [if_neg h0]
   have hp : 2 ^ (f + 1) = 2 * 2 ^ f := by rw [Nat.pow_succ, Nat.mul_comm]
   have hh := ih (n / 2) (by omega)
   have he : Cg (mulF (squaresF (n / 2) (onesF x f (n / 2))) (onesF x f (n / 2))).n (onz x.n (n / 2 + n / 2)) := by
    rw [onz_add]
    exact (mulF_n _ _).trans (((squaresF_n _ _).trans (sqz_cg hh)).mul hh)
   by_cases h2 : n % 2 = 0
   ·rw [if_pos h2]
    rw [show n / 2 + n / 2 = n by omega] at he
    exact he
   ·rw [if_neg h2]
    refine (mulF_n _ _).trans ?_
    have e : onz x.n n = onz x.n (n / 2 + n / 2) * onz x.n (n / 2 + n / 2) * x.n := by
     rw [show onz x.n n = onz x.n (n / 2 + n / 2 + 1) by congr 1; omega]
     rfl
    rw [e]
    exact ((squaresF_n 1 _).trans (he.mul he)).mul (Cg.refl _)
theorem invF_n (x : E5) : Cg (invF x).n (sqz (onz x.n 250) 5 * sqz x.n 3 * onz x.n 2) := by
 unfold invF
 exact (mulF_n _ _).trans (((mulF_n _ _).trans (((squaresF_n 5 _).trans (sqz_cg (onesF_n x 8 250 (by decide)))).mul (squaresF_n 3 x))).mul (onesF_n x 8 2 (by decide)))
def pQ : Nat := 57896044618658097711785492504343953926634992332820282019728792003956564819948
abbrev pN : Nat := pQ + 1
theorem pN_P : (pN : Int) = Pm := by decide
open Go.RowKit
theorem digs4 {a b c d : Int} (ha : 0 ≤ a ∧ a < 65536) (hb : 0 ≤ b ∧ b < 65536) (hc : 0 ≤ c ∧ c < 65536) (_hd : 0 ≤ d ∧ d < 65536) :
  digs (a + 65536 * b + 4294967296 * c + 281474976710656 * d) = [a % 256, a / 256 % 256, b % 256, b / 256 % 256, c % 256, c / 256 % 256, d % 256, d / 256 % 256] := by
 unfold digs
 have h1 : (a + 65536 * b + 4294967296 * c + 281474976710656 * d) % 256 = a % 256 := by omega
 have h2 : (a + 65536 * b + 4294967296 * c + 281474976710656 * d) / 256 % 256 = a / 256 % 256 := by omega
 have h3 : (a + 65536 * b + 4294967296 * c + 281474976710656 * d) / 65536 % 256 = b % 256 := by omega
 have h4 : (a + 65536 * b + 4294967296 * c + 281474976710656 * d) / 16777216 % 256 = b / 256 % 256 := by omega
 have h5 : (a + 65536 * b + 4294967296 * c + 281474976710656 * d) / 4294967296 % 256 = c % 256 := by omega
 have h6 : (a + 65536 * b + 4294967296 * c + 281474976710656 * d) / 1099511627776 % 256 = c / 256 % 256 := by omega
 have h7 : (a + 65536 * b + 4294967296 * c + 281474976710656 * d) / 281474976710656 % 256 = d % 256 := by omega
 have h8 : (a + 65536 * b + 4294967296 * c + 281474976710656 * d) / 72057594037927936 % 256 = d / 256 % 256 := by omega
 rw [h1, h2, h3, h4, h5, h6, h7, h8]
theorem S16 (f : NI) : S f 16 = f 0 + f 1 * 65536 + f 2 * 4294967296 + f 3 * 281474976710656 + f 4 * 18446744073709551616 + f 5 * 1208925819614629174706176 + f 6 * 79228162514264337593543950336 + f 7 * 5192296858534827628530496329220096 + f 8 * 340282366920938463463374607431768211456 + f 9 * 22300745198530623141535718272648361505980416 + f 10 * 1461501637330902918203684832716283019655932542976 + f 11 * 95780971304118053647396689196894323976171195136475136 + f 12 * 6277101735386680763835789423207666416102355444464034512896 + f 13 * 411376139330301510538742295639337626245683966408394965837152256 + f 14 * 26959946667150639794667015087019630673637144422540572481103610249216 + f 15 * 1766847064778384329583297500742918515827483896875618958121606201292619776 := by
 simp [S]
theorem lebytes_S {f : NI} (hf : Dig f 16) : lebytes (S f 16) = bs (rb f 32) := by
 have h0 := hf 0 (by omega)
 have h1 := hf 1 (by omega)
 have h2 := hf 2 (by omega)
 have h3 := hf 3 (by omega)
 have h4 := hf 4 (by omega)
 have h5 := hf 5 (by omega)
 have h6 := hf 6 (by omega)
 have h7 := hf 7 (by omega)
 have h8 := hf 8 (by omega)
 have h9 := hf 9 (by omega)
 have h10 := hf 10 (by omega)
 have h11 := hf 11 (by omega)
 have h12 := hf 12 (by omega)
 have h13 := hf 13 (by omega)
 have h14 := hf 14 (by omega)
 have h15 := hf 15 (by omega)
 have e := S16 f
 have w0 : S f 16 % 18446744073709551616 = f 0 + 65536 * f 1 + 4294967296 * f 2 + 281474976710656 * f 3 := by rw [e]; omega
 have w1 : S f 16 / 18446744073709551616 % 18446744073709551616 = f 4 + 65536 * f 5 + 4294967296 * f 6 + 281474976710656 * f 7 := by rw [e]; omega
 have w2 : S f 16 / 340282366920938463463374607431768211456 % 18446744073709551616 = f 8 + 65536 * f 9 + 4294967296 * f 10 + 281474976710656 * f 11 := by rw [e]; omega
 have w3 : S f 16 / 6277101735386680763835789423207666416102355444464034512896 % 18446744073709551616 = f 12 + 65536 * f 13 + 4294967296 * f 14 + 281474976710656 * f 15 := by rw [e]; omega
 unfold lebytes
 rw [w0, w1, w2, w3, digs4 h0 h1 h2 h3, digs4 h4 h5 h6 h7, digs4 h8 h9 h10 h11, digs4 h12 h13 h14 h15]
 congr 1
 simp [rb, by16, List.range, List.range.loop]
open Go.RowKit
theorem Pm_pos : (0 : Int) < Pm := by decide
theorem Pm_16 : Pm < 65536 ^ 16 := by decide
theorem dS (M : Int) : S (d16 (M % Pm)) 16 = M % Pm := by
 have h0 := Int.emod_nonneg M (show Pm ≠ 0 by decide)
 have h1 := Int.emod_lt_of_pos M Pm_pos
 have h2 := Pm_16
 rw [d16_S _ h0, Int.emod_eq_of_lt h0 (by omega)]
open Go.RowKit
def barr (n : Nat) (f : Nat → Bool) : Array Value := ((List.range n).map fun i => Value.bool (f i)).toArray
theorem barr_size (n : Nat) (f : Nat → Bool) : (barr n f).size = n := by simp [barr]
theorem barr_get (n : Nat) (f : Nat → Bool) (i : Nat) (h : i < n) : (barr n f)[i]? = some (.bool (f i)) := by simp [barr, h]
theorem barr_congr {n : Nat} {f g : Nat → Bool} (h : ∀ i, i < n → f i = g i) : barr n f = barr n g := by
 unfold barr
 congr 1
 exact List.map_congr_left fun i hi => by rw [h i (List.mem_range.1 hi)]
def bupd (f : Nat → Bool) (k : Nat) (v : Bool) : Nat → Bool := fun i => if i = k then v else f i
theorem barr_set (n : Nat) (f : Nat → Bool) (k : Nat) (v : Bool) : (barr n f).setIfInBounds k (.bool v) = barr n (bupd f k v) := by
 apply Array.ext_getElem?
 intro i
 by_cases hi : i < n
 ·rw [Array.getElem?_setIfInBounds, barr_get n (bupd f k v) i hi]
  by_cases hk : k = i
  ·subst hk
   rw [if_pos rfl, if_pos (by rw [barr_size]; exact hi)]
   simp [bupd]
  ·have : ¬ i = k := fun h => hk h.symm
   rw [if_neg hk, barr_get n f i hi]
   simp [bupd, this]
 ·rw [Array.getElem?_eq_none (by simp [barr_size]; omega), Array.getElem?_eq_none (by simp [barr_size]; omega)]
def Brow (w : World) (g : Nat) (n : Nat) (f : Nat → Bool) : Prop := w.heap[g]? = some (.cells (barr n f) 4 (0, 0))
theorem Brow.lt {w : World} {g n : Nat} {f : Nat → Bool} (h : Brow w g n f) : g < w.heap.size := by
 by_cases hlt : g < w.heap.size
 ·exact hlt
 ·have hn : w.heap[g]? = none := by simp; omega
  rw [Brow, hn] at h
  cases h
theorem Brow.cell {w : World} {g n : Nat} {f : Nat → Bool} (h : Brow w g n f) {i : Nat} (hi : i < n) : w.cell? ⟨g, i, none⟩ = some (.bool (f i)) := by
 rw [cell_of_row w g i (barr n f) 4 (0, 0) h, barr_get n f i hi]
theorem Brow.free {w : World} {g n : Nat} {f : Nat → Bool} (h : Brow w g n f) (i : Nat) : w.frozen? ⟨g, i, none⟩ = false := frozen_of_row w g i (barr n f) 4 h
theorem Brow.set {w : World} {g n : Nat} {f : Nat → Bool} (h : Brow w g n f) (k : Nat) (v : Bool) : Brow (w.setCell ⟨g, k, none⟩ (.bool v)) g n (bupd f k v) := by
 unfold Brow
 rw [heap_setCell_same w g k (barr n f) 4 _ h, barr_set]
theorem Brow.keep {w w' : World} {g n : Nat} {f : Nat → Bool} (h : Brow w g n f) (hb : Below w.heap.size w w') : Brow w' g n f := by
 unfold Brow
 rw [hb.block g h.lt]
 exact h
theorem Brow.congr {w : World} {g n : Nat} {f f' : Nat → Bool} (h : Brow w g n f) (e : ∀ i, i < n → f i = f' i) : Brow w g n f' := by
 unfold Brow
 rw [← barr_congr e]
 exact h
theorem Brow.new (w : World) (n : Nat) (f : Nat → Bool) : Brow (w.alloc (.cells (barr n f) 4)) w.heap.size n f := heap_alloc_new w _
def xbit (n k i : Nat) : Bool := decide (8 ≤ n - 1 - i) || Nat.testBit (256 - k) (n - 1 - i)
def xbw (n k j : Nat) : Nat → Bool := fun i => decide (i < j) && xbit n k i
theorem xbw_next (n k j i : Nat) {v : Bool} (hv : v = xbit n k j) : bupd (xbw n k j) j v i = xbw n k (j + 1) i := by
 unfold bupd xbw
 by_cases h : i = j
 ·subst h
  simp [hv]
 ·rw [if_neg h]
  by_cases h2 : i < j
  ·simp [h2, show i < j + 1 by omega]
  ·simp [h2, show ¬ i < j + 1 by omega]
theorem bits_255 (w : World) : Calls Tryz.prog 89 #[.int .i64 255, .int .i64 21] w fun r w' => ∃ b, r = .returned (.slice (some ⟨b, 0, none⟩) 255 255) ∧ w.heap.size ≤ b ∧ Brow w' b 255 (xbit 255 21) ∧ Below w.heap.size w w' := by
 have hmk : ∀ w, (Instr.makeSlice 138 (.int .i64 255) (.int .i64 255)).run Tryz.prog w = .ok (.slice (some ⟨w.heap.size, 0, none⟩) 255 255) (w.alloc (.cells (barr 255 fun _ => false) 4)) := fun _ => by kernel_rfl
 go_enter Tryz.func89, Tryz.ntmps89
 go_wp2
 clear hmk
 have R := Brow.new w 255 fun _ => false
 have O := new_below w (.cells (barr 255 fun _ => false) 4)
 generalize w.alloc (.cells (barr 255 fun _ => false) 4) = W at R O ⊢
 go_loopw [7] (fun i wr => ∃ j : Nat, j ≤ 255 ∧ i = .int .i64 j ∧ Brow wr w.heap.size 255 (xbw 255 21 j) ∧ Below w.heap.size w wr) (fun i _ => 255 - (intOf i).toNat)
 case atStart => exact ⟨0, by omega, rfl, R.congr (fun i _ => by simp [xbw]), O⟩
 case round =>
  clear R O
  obtain ⟨j, hj, rfl, R, O⟩ := hrel
  by_cases h1 : j < 247
  ·have c := R.cell (i := j) (by omega)
   have e := R.free j
   have i1 : (0 : Int) ≤ (j : Int) := by omega
   have i2 : (j : Int) < 247 := by omega
   have RR := hide ((R.set j true).congr (f' := xbw 255 21 (j + 1)) (fun i _ => xbw_next 255 21 j i (by unfold xbit; rw [decide_eq_true (by omega)]; rfl)))
   have O' := hide (O.setCell (p := ⟨w.heap.size, j, none⟩) (Nat.le_refl _) (.bool true))
   clear R O
   go_wp2
   go_roundw
   case rel => exact ⟨j + 1, by omega, by go_num, RR.out, O'.out⟩
   case measure => simp [intOf]; omega
  ·by_cases h2 : j < 255
   ·rcases (show j = 247 ∨ j = 248 ∨ j = 249 ∨ j = 250 ∨ j = 251 ∨ j = 252 ∨ j = 253 ∨ j = 254 by omega) with rfl | rfl | rfl | rfl | rfl | rfl | rfl | rfl
    ·have c := R.cell (i := 247) (by omega)
     have e := R.free 247
     have RR := hide ((R.set 247 true).congr (f' := xbw 255 21 (247 + 1)) (fun i _ => xbw_next 255 21 247 i (by decide)))
     have O' := hide (O.setCell (p := ⟨w.heap.size, 247, none⟩) (Nat.le_refl _) (.bool true))
     clear R O
     go_wp2
     go_roundw
     case rel => exact ⟨248, by omega, rfl, RR.out, O'.out⟩
     case measure => simp [intOf]
    ·have c := R.cell (i := 248) (by omega)
     have e := R.free 248
     have RR := hide ((R.set 248 true).congr (f' := xbw 255 21 (248 + 1)) (fun i _ => xbw_next 255 21 248 i (by decide)))
     have O' := hide (O.setCell (p := ⟨w.heap.size, 248, none⟩) (Nat.le_refl _) (.bool true))
     clear R O
     go_wp2
     go_roundw
     case rel => exact ⟨249, by omega, rfl, RR.out, O'.out⟩
     case measure => simp [intOf]
    ·have c := R.cell (i := 249) (by omega)
     have e := R.free 249
     have RR := hide ((R.set 249 true).congr (f' := xbw 255 21 (249 + 1)) (fun i _ => xbw_next 255 21 249 i (by decide)))
     have O' := hide (O.setCell (p := ⟨w.heap.size, 249, none⟩) (Nat.le_refl _) (.bool true))
     clear R O
     go_wp2
     go_roundw
     case rel => exact ⟨250, by omega, rfl, RR.out, O'.out⟩
     case measure => simp [intOf]
    ·have c := R.cell (i := 250) (by omega)
     have e := R.free 250
     have RR := hide ((R.set 250 false).congr (f' := xbw 255 21 (250 + 1)) (fun i _ => xbw_next 255 21 250 i (by decide)))
     have O' := hide (O.setCell (p := ⟨w.heap.size, 250, none⟩) (Nat.le_refl _) (.bool false))
     clear R O
     go_wp2
     go_roundw
     case rel => exact ⟨251, by omega, rfl, RR.out, O'.out⟩
     case measure => simp [intOf]
    ·have c := R.cell (i := 251) (by omega)
     have e := R.free 251
     have RR := hide ((R.set 251 true).congr (f' := xbw 255 21 (251 + 1)) (fun i _ => xbw_next 255 21 251 i (by decide)))
     have O' := hide (O.setCell (p := ⟨w.heap.size, 251, none⟩) (Nat.le_refl _) (.bool true))
     clear R O
     go_wp2
     go_roundw
     case rel => exact ⟨252, by omega, rfl, RR.out, O'.out⟩
     case measure => simp [intOf]
    ·have c := R.cell (i := 252) (by omega)
     have e := R.free 252
     have RR := hide ((R.set 252 false).congr (f' := xbw 255 21 (252 + 1)) (fun i _ => xbw_next 255 21 252 i (by decide)))
     have O' := hide (O.setCell (p := ⟨w.heap.size, 252, none⟩) (Nat.le_refl _) (.bool false))
     clear R O
     go_wp2
     go_roundw
     case rel => exact ⟨253, by omega, rfl, RR.out, O'.out⟩
     case measure => simp [intOf]
    ·have c := R.cell (i := 253) (by omega)
     have e := R.free 253
     have RR := hide ((R.set 253 true).congr (f' := xbw 255 21 (253 + 1)) (fun i _ => xbw_next 255 21 253 i (by decide)))
     have O' := hide (O.setCell (p := ⟨w.heap.size, 253, none⟩) (Nat.le_refl _) (.bool true))
     clear R O
     go_wp2
     go_roundw
     case rel => exact ⟨254, by omega, rfl, RR.out, O'.out⟩
     case measure => simp [intOf]
    ·have c := R.cell (i := 254) (by omega)
     have e := R.free 254
     have RR := hide ((R.set 254 true).congr (f' := xbw 255 21 (254 + 1)) (fun i _ => xbw_next 255 21 254 i (by decide)))
     have O' := hide (O.setCell (p := ⟨w.heap.size, 254, none⟩) (Nat.le_refl _) (.bool true))
     clear R O
     go_wp2
     go_roundw
     case rel => exact ⟨255, by omega, rfl, RR.out, O'.out⟩
     case measure => simp [intOf]
   ·have hj' : j = 255 := by omega
    subst hj'
    have RR := hide (R.congr (f' := xbit 255 21) (fun i hi => by unfold xbw; rw [decide_eq_true hi]; rfl))
    clear R
    go_wp2
    go_ret
    exact ⟨w.heap.size, rfl, Nat.le_refl _, RR.out, O⟩
open Go.RowKit
def rw1 (a b : NI) (i k : Nat) : Nat → Int := fun j => if i ≤ j ∧ j < i + k then a i * b (j - i) else 0
def mp (a b : NI) : Nat → Nat → Int
 | 0, _ => 0
 | i + 1, j => mp a b i j + rw1 a b i 16 j
def mq (a b : NI) (i k : Nat) : Nat → Int := fun j => mp a b i j + rw1 a b i k j
theorem S_add' (f g : NI) : ∀ n, S (fun i => f i + g i) n = S f n + S g n
 | 0 => rfl
 | n + 1 => by
  have ih := S_add' f g n
  simp only [S]
  rw [ih, Int.add_mul]
  omega
theorem S_one (m : Nat) (v : Int) : ∀ n, S (fun j => if j = m then v else 0) n = if m < n then v * 65536 ^ m else 0
 | 0 => by simp [S]
 | n + 1 => by
  have ih := S_one m v n
  simp only [S]
  rw [ih]
  by_cases h1 : m < n
  ·rw [if_pos h1, if_neg (show ¬ n = m by omega), if_pos (show m < n + 1 by omega)]
   simp
  ·rw [if_neg h1]
   by_cases h2 : n = m
   ·subst h2
    rw [if_pos rfl, if_pos (by omega)]
    simp
   ·rw [if_neg h2, if_neg (show ¬ m < n + 1 by omega)]
    simp
theorem rw1_next (a b : NI) (i k j : Nat) : rw1 a b i (k + 1) j = rw1 a b i k j + if j = i + k then a i * b k else 0 := by
 unfold rw1
 by_cases h1 : j = i + k
 ·subst h1
  rw [if_pos (by omega), if_neg (by omega), if_pos rfl, show i + k - i = k by omega]
  omega
 ·rw [if_neg h1]
  by_cases h2 : i ≤ j ∧ j < i + k
  ·rw [if_pos h2, if_pos (by omega)]
   omega
  ·rw [if_neg h2, if_neg (by omega)]
   omega
theorem rw1_S (a b : NI) (i : Nat) : ∀ k, i + k ≤ 32 → S (rw1 a b i k) 32 = a i * 65536 ^ i * S b k
 | 0, _ => by
  rw [S_congr (g := fun _ => 0) fun j _ => by unfold rw1; rw [if_neg (by omega)], S_zero]
  simp [S]
 | k + 1, h => by
  have ih := rw1_S a b i k (by omega)
  rw [S_congr fun j _ => rw1_next a b i k j, S_add', ih, S_one, if_pos (by omega)]
  simp only [S]
  rw [Int.pow_add, Int.mul_add]
  congr 1
  rw [Int.mul_assoc, Int.mul_assoc, Int.mul_left_comm (65536 ^ i)]
theorem mp_S (a b : NI) : ∀ i, i ≤ 16 → S (mp a b i) 32 = S a i * S b 16
 | 0, _ => by
  show S (fun _ => 0) 32 = _
  rw [S_zero]
  simp [S]
 | i + 1, h => by
  have ih := mp_S a b i (by omega)
  have e : S (mp a b (i + 1)) 32 = S (fun j => mp a b i j + rw1 a b i 16 j) 32 := rfl
  rw [e, S_add', ih, rw1_S a b i 16 (by omega)]
  simp only [S]
  rw [Int.add_mul]
theorem dmul {x y : Int} (hx : 0 ≤ x ∧ x < 65536) (hy : 0 ≤ y ∧ y < 65536) : 0 ≤ x * y ∧ x * y ≤ 4294836225 := by
 refine ⟨Int.mul_nonneg hx.1 hy.1, ?_⟩
 have h1 : x * y ≤ 65535 * y := Int.mul_le_mul_of_nonneg_right (by omega) hy.1
 omega
theorem rw1_bd {a b : NI} (ha : Dig a 16) (hb : Dig b 16) {i k : Nat} (hi : i < 16) (hk : k ≤ 16) (j : Nat) : 0 ≤ rw1 a b i k j ∧ rw1 a b i k j ≤ 4294836225 := by
 unfold rw1
 by_cases h : i ≤ j ∧ j < i + k
 ·rw [if_pos h]
  exact dmul (ha i hi) (hb (j - i) (by omega))
 ·rw [if_neg h]
  omega
theorem mp_bd {a b : NI} (ha : Dig a 16) (hb : Dig b 16) (j : Nat) : ∀ i, i ≤ 16 → 0 ≤ mp a b i j ∧ mp a b i j ≤ 4294836225 * i
 | 0, _ => by simp [mp]
 | i + 1, h => by
  have ih := mp_bd ha hb j i (by omega)
  have h2 := rw1_bd ha hb (i := i) (k := 16) (by omega) (by omega) j
  simp only [mp]
  omega
theorem mp_48 {a b : NI} (ha : Dig a 16) (hb : Dig b 16) : B48 (mp a b 16) := ⟨fun j _ => by
 have := mp_bd ha hb j 16 (by omega)
 omega⟩
theorem mq_zero (a b : NI) (i j : Nat) : mq a b i 0 j = mp a b i j := by
 unfold mq rw1
 rw [if_neg (by omega)]
 omega
theorem mq_at (a b : NI) (i k : Nat) : mq a b i k (i + k) = mp a b i (i + k) := by
 unfold mq rw1
 rw [if_neg (by omega)]
 omega
theorem mq_next (a b : NI) (i k j : Nat) : upd (mq a b i k) (i + k) (mp a b i (i + k) + a i * b k) j = mq a b i (k + 1) j := by
 unfold upd
 by_cases h : j = i + k
 ·subst h
  rw [if_pos rfl]
  unfold mq
  rw [rw1_next, if_pos rfl]
  unfold rw1
  rw [if_neg (by omega)]
  omega
 ·rw [if_neg h]
  unfold mq
  rw [rw1_next, if_neg h]
  omega
open Go.RowKit
theorem rmul_any (a b : NI) (w : World) (ha : Dig a 16) (hb : Dig b 16) : Cs 58 #[.agg (arr 16 a), .agg (arr 16 b)] w (.agg (arr 16 (d16 ((S a 16 * S b 16) % Pm)))) := by
 go_enter Tryz.func58, Tryz.ntmps58
 go_wp2
 rw [show #[Value.int .u64 0, Value.int .u64 0, Value.int .u64 0, Value.int .u64 0, Value.int .u64 0, Value.int .u64 0, Value.int .u64 0, Value.int .u64 0, Value.int .u64 0, Value.int .u64 0, Value.int .u64 0, Value.int .u64 0, Value.int .u64 0, Value.int .u64 0, Value.int .u64 0, Value.int .u64 0] = arr 16 (fun _ => 0) from rfl, show #[Value.int .u64 0, Value.int .u64 0, Value.int .u64 0, Value.int .u64 0, Value.int .u64 0, Value.int .u64 0, Value.int .u64 0, Value.int .u64 0, Value.int .u64 0, Value.int .u64 0, Value.int .u64 0, Value.int .u64 0, Value.int .u64 0, Value.int .u64 0, Value.int .u64 0, Value.int .u64 0, Value.int .u64 0, Value.int .u64 0, Value.int .u64 0, Value.int .u64 0, Value.int .u64 0, Value.int .u64 0, Value.int .u64 0, Value.int .u64 0, Value.int .u64 0, Value.int .u64 0, Value.int .u64 0, Value.int .u64 0, Value.int .u64 0, Value.int .u64 0, Value.int .u64 0, Value.int .u64 0] = arr 32 (fun _ => 0) from rfl]
 have R1 : Row ((((w.alloc (.cells (arr 16 a) 108)).alloc (.cells (arr 16 b) 108)).alloc (.cells (arr 16 fun _ => 0) 108)).alloc (.cells (arr 32 fun _ => 0) 135)) w.heap.size 108 16 a := (((Row.new w 108 16 a).alloc _).alloc _).alloc _
 have R2 : Row ((((w.alloc (.cells (arr 16 a) 108)).alloc (.cells (arr 16 b) 108)).alloc (.cells (arr 16 fun _ => 0) 108)).alloc (.cells (arr 32 fun _ => 0) 135)) (w.heap.size + 1) 108 16 b := ((Row.new' _ 108 16 _ (by simp)).alloc _).alloc _
 have R3 : Row ((((w.alloc (.cells (arr 16 a) 108)).alloc (.cells (arr 16 b) 108)).alloc (.cells (arr 16 fun _ => 0) 108)).alloc (.cells (arr 32 fun _ => 0) 135)) (w.heap.size + 1 + 1) 108 16 (fun _ => 0) := (Row.new' _ 108 16 _ (by simp)).alloc _
 have R4 : Row ((((w.alloc (.cells (arr 16 a) 108)).alloc (.cells (arr 16 b) 108)).alloc (.cells (arr 16 fun _ => 0) 108)).alloc (.cells (arr 32 fun _ => 0) 135)) (w.heap.size + 1 + 1 + 1) 135 32 (fun _ => 0) := Row.new' _ 135 32 _ (by simp)
 have O : Below w.heap.size w ((((w.alloc (.cells (arr 16 a) 108)).alloc (.cells (arr 16 b) 108)).alloc (.cells (arr 16 fun _ => 0) 108)).alloc (.cells (arr 32 fun _ => 0) 135)) := ((((Below.refl _ _).alloc (Nat.le_refl _) _).alloc (by simp) _).alloc (by simp; omega) _).alloc (by simp; omega) _
 generalize ((((w.alloc (.cells (arr 16 a) 108)).alloc (.cells (arr 16 b) 108)).alloc (.cells (arr 16 fun _ => 0) 108)).alloc (.cells (arr 32 fun _ => 0) 135)) = W at R1 R2 R3 R4 O ⊢
 go_loopw [6] (fun x wr => ∃ i : Nat, i ≤ 16 ∧ x = .int .i64 i ∧ Row wr w.heap.size 108 16 a ∧ Row wr (w.heap.size + 1) 108 16 b ∧ Row wr (w.heap.size + 1 + 1) 108 16 (fun _ => 0) ∧ Row wr (w.heap.size + 1 + 1 + 1) 135 32 (mp a b i) ∧ Below w.heap.size w wr) (fun x _ => 16 - (intOf x).toNat)
 case atStart => exact ⟨0, by omega, rfl, R1, R2, R3, R4, O⟩
 case round =>
  clear R1 R2 R3 R4 O
  obtain ⟨i, hi, rfl, R1, R2, R3, R4, O⟩ := hrel
  by_cases hlt : i < 16
  ·go_wp2
   go_loopw [7] (fun y wq => ∃ k : Nat, k ≤ 16 ∧ y = .int .i64 k ∧ Row wq w.heap.size 108 16 a ∧ Row wq (w.heap.size + 1) 108 16 b ∧ Row wq (w.heap.size + 1 + 1) 108 16 (fun _ => 0) ∧ Row wq (w.heap.size + 1 + 1 + 1) 135 32 (mq a b i k) ∧ Below w.heap.size w wq) (fun y _ => 16 - (intOf y).toNat)
   case atStart => exact ⟨0, by omega, rfl, R1, R2, R3, R4.congr (fun j _ => (mq_zero a b i j).symm), O⟩
   case round =>
    clear R1 R2 R3 R4 O
    obtain ⟨k, hk, rfl, R1, R2, R3, R4, O⟩ := hrel
    by_cases hkl : k < 16
    ·have c := R1.cell hlt
     have d := R2.cell hkl
     have e := R4.cell (i := i + k) (by omega)
     rw [mq_at] at e
     have f := R4.free
     have hp := dmul (ha i hlt) (hb k hkl)
     have hm := mp_bd ha hb (i + k) i hi
     have i1 : (0 : Int) ≤ (i : Int) := by omega
     have i2 : (i : Int) < 16 := by omega
     have k1 : (0 : Int) ≤ (k : Int) := by omega
     have k2 : (k : Int) < 16 := by omega
     obtain ⟨p0, p1⟩ := hp
     obtain ⟨m0, m1⟩ := hm
     have m2 : mp a b i (i + k) < 100000000000 := by omega
     clear m1
     go_wp2_with fail
     go_region
     go_wp2
     exact ⟨⟨k + 1, by omega, by go_num, rowD (R1.other (a := ⟨w.heap.size + 1 + 1 + 1, i + k, none⟩) (by simp <;> omega) _), rowD (R2.other (a := ⟨w.heap.size + 1 + 1 + 1, i + k, none⟩) (by simp <;> omega) _), rowD (R3.other (a := ⟨w.heap.size + 1 + 1 + 1, i + k, none⟩) (by simp) _), rowD ((R4.set (i + k) (mp a b i (i + k) + a i * b k)).congr (fun j _ => mq_next a b i k j)), (O.setCell (p := ⟨w.heap.size + 1 + 1 + 1, i + k, none⟩) (by simp <;> omega) _).drew⟩, by simp [intOf]; omega⟩
    ·have hk' : k = 16 := by omega
     subst hk'
     go_wp2
     exact ⟨⟨i + 1, by omega, by go_num, R1, R2, R3, R4, O⟩, by simp [intOf]; omega⟩
  ·have hi' : i = 16 := by omega
   subst hi'
   have HR := hide R4
   clear R4 R1 R2
   go_wp2_with (refine wpList_load_row rfl 135 _ rfl (w.heap.size + 1 + 1 + 1) rfl 135 (arr 32 (mp a b 16)) (0, 0) _ HR.out Tryz.underlying135 rfl (info135 _) ?_)
   try rw [show ∀ (a : Act) (v : Value), a.put none v = a from fun _ _ => rfl]
   refine (reduce_any (mp a b 16) _ (mp_48 ha hb)).mono ?_
   rintro _ w3 ⟨rfl, hb3⟩
   replace R3 := R3.keep hb3
   replace O := O.trans (hb3.mono O.size)
   clear hb3 HR
   rw [mp_S a b 16 (by omega)]
   have RR := hide (R3.setAll (d16 ((S a 16 * S b 16) % Pm)))
   have OO := hide (below_setCells (g := w.heap.size + 1 + 1) (by omega) (arr 16 (d16 ((S a 16 * S b 16) % Pm))).toList 0 O)
   go_wp2_with (refine wpList_store_mid rfl 108 _ _ rfl (w.heap.size + 1 + 1) 0 (arr 16 (d16 ((S a 16 * S b 16) % Pm))) rfl rfl (by rw [arr_size]; exact R3.there) (info108 _) (arr_one _ _) ?_)
   exact bodyPost_ret (v := .agg (arr 16 (d16 ((S a 16 * S b 16) % Pm)))) (results_cell_row Tryz.results58 _ _ (w.heap.size + 1 + 1) 108 (arr 16 (d16 ((S a 16 * S b 16) % Pm))) (0, 0) _ rfl RR.out Tryz.underlying108 rfl (info108 _)) rfl ⟨rfl, OO.out⟩
open Go.RowKit
def pwm (x : Int) (f : Nat → Bool) : Nat → Int
 | 0 => 1
 | i + 1 => if f i = true then (pwm x f i * pwm x f i % Pm) * x % Pm else pwm x f i * pwm x f i % Pm
theorem pwm_bd (x : Int) (f : Nat → Bool) : ∀ i, 0 ≤ pwm x f i ∧ pwm x f i < Pm
 | 0 => by unfold pwm; exact ⟨by decide, by decide⟩
 | i + 1 => by
  unfold pwm
  have h : ∀ y : Int, 0 ≤ y % Pm ∧ y % Pm < Pm := fun y => ⟨Int.emod_nonneg y (by decide), Int.emod_lt_of_pos y Pm_pos⟩
  split
  ·exact h _
  ·exact h _
theorem bS {y : Int} (h : 0 ≤ y ∧ y < Pm) : S (d16 y) 16 = y := by
 have h2 := Pm_16
 rw [d16_S _ h.1, Int.emod_eq_of_lt h.1 (by omega)]
theorem power_any (a : NI) (n : Nat) (f : Nat → Bool) (b : Nat) (w : World) (ha : Dig a 16) (hB : Brow w b n f) (hn : n ≤ 300) : Cs 88 #[.agg (arr 16 a), .slice (some ⟨b, 0, none⟩) n n] w (.agg (arr 16 (d16 (pwm (S a 16) f n)))) := by
 have hb1 := hB.lt
 go_enter Tryz.func88, Tryz.ntmps88
 go_wp2_with fail
 rw [show #[Value.int .u64 0, Value.int .u64 0, Value.int .u64 0, Value.int .u64 0, Value.int .u64 0, Value.int .u64 0, Value.int .u64 0, Value.int .u64 0, Value.int .u64 0, Value.int .u64 0, Value.int .u64 0, Value.int .u64 0, Value.int .u64 0, Value.int .u64 0, Value.int .u64 0, Value.int .u64 0] = arr 16 (fun _ => 0) from rfl]
 have R1 : Row ((w.alloc (.cells (arr 16 a) 108)).alloc (.cells (arr 16 fun _ => 0) 108)) w.heap.size 108 16 a := (Row.new w 108 16 a).alloc _
 have R2 : Row ((w.alloc (.cells (arr 16 a) 108)).alloc (.cells (arr 16 fun _ => 0) 108)) (w.heap.size + 1) 108 16 (fun _ => 0) := Row.new' _ 108 16 _ (by simp)
 have O : Below w.heap.size w ((w.alloc (.cells (arr 16 a) 108)).alloc (.cells (arr 16 fun _ => 0) 108)) := ((Below.refl _ _).alloc (Nat.le_refl _) _).alloc (by simp) _
 have B := hB.keep O
 generalize (w.alloc (.cells (arr 16 a) 108)).alloc (.cells (arr 16 fun _ => 0) 108) = W at R1 R2 O B ⊢
 clear hB
 refine (rsmall_any 1 _ (by decide) (by decide)).mono ?_
 rintro _ w1 ⟨rfl, hb⟩
 replace R1 := R1.keep hb
 replace R2 := R2.keep hb
 replace B := B.keep hb
 replace O := O.trans (hb.mono O.size)
 clear hb
 have RX : Row (w1.alloc (.cells #[Value.int .u64 0, Value.int .u64 0, Value.int .u64 0, Value.int .u64 0, Value.int .u64 0, Value.int .u64 0, Value.int .u64 0, Value.int .u64 0, Value.int .u64 0, Value.int .u64 0, Value.int .u64 0, Value.int .u64 0, Value.int .u64 0, Value.int .u64 0, Value.int .u64 0, Value.int .u64 0] 108)) w1.heap.size 108 16 (fun _ => 0) := Row.new w1 108 16 (fun _ => 0)
 have RR := hide (RX.setAll (d16 1))
 have BB := below_setCells (g := w1.heap.size) (Nat.le_refl _) (arr 16 (d16 1)).toList 0 (new_below w1 (.cells #[Value.int .u64 0, Value.int .u64 0, Value.int .u64 0, Value.int .u64 0, Value.int .u64 0, Value.int .u64 0, Value.int .u64 0, Value.int .u64 0, Value.int .u64 0, Value.int .u64 0, Value.int .u64 0, Value.int .u64 0, Value.int .u64 0, Value.int .u64 0, Value.int .u64 0, Value.int .u64 0] 108))
 have gx := R2.lt
 have R1' := hide (R1.keep BB)
 have R2' := hide (R2.keep BB)
 have B' := hide (B.keep BB)
 have O' := hide (O.trans (BB.mono O.size))
 clear R1 R2 B O BB
 go_wp2_with (refine wpList_store_mid rfl 108 _ _ rfl w1.heap.size 0 (arr 16 (d16 1)) rfl rfl ?there (info108 _) (arr_one _ _) ?_)
 case there => rw [arr_size]; exact RX.there
 try rw [show ∀ (a : Act) (v : Value), a.put none v = a from fun _ _ => rfl]
 have R1 := R1'.out
 have R2 := R2'.out
 have B := B'.out
 have O := O'.out
 replace RX := RR.out
 clear R1' R2' B' O' RR
 generalize w1.heap.size = gX at *
 generalize (w1.alloc (.cells #[Value.int .u64 0, Value.int .u64 0, Value.int .u64 0, Value.int .u64 0, Value.int .u64 0, Value.int .u64 0, Value.int .u64 0, Value.int .u64 0, Value.int .u64 0, Value.int .u64 0, Value.int .u64 0, Value.int .u64 0, Value.int .u64 0, Value.int .u64 0, Value.int .u64 0, Value.int .u64 0] 108)).setCells gX 0 (arr 16 (d16 1)).toList = W2 at *
 go_loopw [6] (fun x wr => ∃ i : Nat, i ≤ n ∧ x = .int .i64 i ∧ Row wr w.heap.size 108 16 a ∧ Row wr (w.heap.size + 1) 108 16 (fun _ => 0) ∧ Row wr gX 108 16 (d16 (pwm (S a 16) f i)) ∧ Brow wr b n f ∧ Below w.heap.size w wr) (fun x _ => n - (intOf x).toNat)
 case atStart => exact ⟨0, by omega, rfl, R1, R2, RX, B, O⟩
 case round =>
  clear R1 R2 RX B O
  obtain ⟨i, hi, rfl, R1, R2, RX, B, O⟩ := hrel
  have hp := pwm_bd (S a 16) f i
  by_cases hlt : i < n
  ·have h1 : (i : Int) < (n : Int) := by omega
   have HP := hide hp
   have HX := hide RX
   clear hp RX
   go_wp2_with (refine wpList_load_row rfl 108 _ rfl gX rfl 108 (arr 16 (d16 (pwm (S a 16) f i))) (0, 0) _ HX.out Tryz.underlying108 rfl (info108 _) ?_)
   refine (rmul_any _ _ _ (d16_dig _ 16) (d16_dig _ 16)).mono ?_
   rintro _ w3 ⟨rfl, hb3⟩
   rw [bS HP.out]
   replace R1 := R1.keep hb3
   replace R2 := R2.keep hb3
   replace B := B.keep hb3
   have RX := HX.out.keep hb3
   replace O := O.trans (hb3.mono O.size)
   clear hb3 HX
   have hE : pwm (S a 16) f (i + 1) = if f i = true then (pwm (S a 16) f i * pwm (S a 16) f i % Pm) * S a 16 % Pm else pwm (S a 16) f i * pwm (S a 16) f i % Pm := rfl
   have HE := hide hE
   clear hE HP
   generalize pwm (S a 16) f i * pwm (S a 16) f i = Y at *
   have RR := hide (RX.setAll (d16 (Y % Pm)))
   have R1' := hide (R1.setOther (k := gX) (by omega) 0 (arr 16 (d16 (Y % Pm))).toList)
   have R2' := hide (R2.setOther (k := gX) (by omega) 0 (arr 16 (d16 (Y % Pm))).toList)
   have B' : Hid (Brow (w3.setCells gX 0 (arr 16 (d16 (Y % Pm))).toList) b n f) := hide (by
    unfold Brow
    rw [heap_setCells_other gX b (by omega)]
    exact B)
   have O' := hide (below_setCells (g := gX) (by omega) (arr 16 (d16 (Y % Pm))).toList 0 O)
   clear R1 R2 B O
   have BC := B'.out.cell hlt
   cases hf : f i
   ·rw [hf] at BC HE
    go_wp2_with (refine wpList_store_mid rfl 108 _ _ rfl gX 0 (arr 16 (d16 (Y % Pm))) rfl rfl ?there (info108 _) (arr_one _ _) ?_)
    case there => rw [arr_size]; exact RX.there
    go_roundw
    case rel => exact ⟨i + 1, by omega, by go_num, R1'.out, R2'.out, by rw [HE.out]; exact RR.out, B'.out, O'.out⟩
    case measure => simp [intOf]; omega
   ·rw [hf] at BC HE
    go_wp2_with (first | (refine wpList_store_mid rfl 108 _ _ rfl gX 0 (arr 16 (d16 (Y % Pm))) rfl rfl ?there (info108 _) (arr_one _ _) ?_) | (refine wpList_load_row rfl 108 _ rfl gX rfl 108 (arr 16 (d16 (Y % Pm))) (0, 0) _ RR.out Tryz.underlying108 rfl (info108 _) ?_) | (refine wpList_load_row rfl 108 _ rfl w.heap.size rfl 108 (arr 16 a) (0, 0) _ R1'.out Tryz.underlying108 rfl (info108 _) ?_))
    case there => rw [arr_size]; exact RX.there
    refine (rmul_any _ _ _ (d16_dig _ 16) ha).mono ?_
    rintro _ w5 ⟨rfl, hb5⟩
    rw [dS]
    rw [if_pos trivial] at HE
    have R1 := R1'.out.keep hb5
    have R2 := R2'.out.keep hb5
    have B := B'.out.keep hb5
    have RY := RR.out.keep hb5
    have O := O'.out.trans (hb5.mono O'.out.size)
    clear hb5 R1' R2' B' RR O' BC RX
    generalize Y % Pm * S a 16 = Y2 at *
    have RR := hide (RY.setAll (d16 (Y2 % Pm)))
    have R1' := hide (R1.setOther (k := gX) (by omega) 0 (arr 16 (d16 (Y2 % Pm))).toList)
    have R2' := hide (R2.setOther (k := gX) (by omega) 0 (arr 16 (d16 (Y2 % Pm))).toList)
    have B' : Hid (Brow (w5.setCells gX 0 (arr 16 (d16 (Y2 % Pm))).toList) b n f) := hide (by
     unfold Brow
     rw [heap_setCells_other gX b (by omega)]
     exact B)
    have O' := hide (below_setCells (g := gX) (by omega) (arr 16 (d16 (Y2 % Pm))).toList 0 O)
    clear R1 R2 B O
    go_wp2_with (refine wpList_store_mid rfl 108 _ _ rfl gX 0 (arr 16 (d16 (Y2 % Pm))) rfl rfl ?there (info108 _) (arr_one _ _) ?_)
    case there => rw [arr_size]; exact RY.there
    go_roundw
    case rel => exact ⟨i + 1, by omega, by go_num, R1'.out, R2'.out, by rw [HE.out]; exact RR.out, B'.out, O'.out⟩
    case measure => simp [intOf]; omega
  ·have hi' : i = n := by omega
   subst hi'
   have RR := hide (R2.setAll (d16 (pwm (S a 16) f i)))
   have OO := hide (below_setCells (g := w.heap.size + 1) (by omega) (arr 16 (d16 (pwm (S a 16) f i))).toList 0 O)
   clear hp R1 B O
   go_wp2_with (first | (refine wpList_load_row rfl 108 _ rfl gX rfl 108 (arr 16 (d16 (pwm (S a 16) f i))) (0, 0) _ RX Tryz.underlying108 rfl (info108 _) ?_) | (refine wpList_store_mid rfl 108 _ _ rfl (w.heap.size + 1) 0 (arr 16 (d16 (pwm (S a 16) f i))) rfl rfl ?there (info108 _) (arr_one _ _) ?_))
   case there => rw [arr_size]; exact R2.there
   exact bodyPost_ret (v := .agg (arr 16 (d16 (pwm (S a 16) f i)))) (results_cell_row Tryz.results88 _ _ (w.heap.size + 1) 108 (arr 16 (d16 (pwm (S a 16) f i))) (0, 0) _ rfl RR.out Tryz.underlying108 rfl (info108 _)) rfl ⟨rfl, OO.out⟩
open Go.RowKit
section
variable {P : Program} {ops : Array Oper} {md : Region.Mode} {Q : Exit → Act → World → Prop}
theorem region_cut {id : Nat} {a : Act} {w : World} (R : Act → Act → World → Prop) (hm : P.follows .mixedOrders = true) (h2 : ∀ a' w', R a a' w' → Q .normal a' w')
  (h1 : (∀ a' w', R a a' w' → Q .normal a' w') → wpAny P .any ops Q ops.size (Array.replicate ops.size false) a w.drew) : (Code.region id ops true).wp P Q a w :=
 wp_region_any hm (h1 h2)
theorem ready_step {fuel : Nat} {listed : Array Bool} {a : Act} {w : World} {i : Nat} {o : Oper} {rs : List Nat} (ho : ops[i]? = some o) (hg : o.guard = none)
  (h : o.wp P a w (wpAny P md ops Q fuel (listed.setIfInBounds i true)) Q) (hs : AllReady P md ops Q fuel listed a w rs) : AllReady P md ops Q fuel listed a w (i :: rs) :=
 AllReady.cons ho (fun K' hK => by
  have hw : Region.wanted o (yielded ops a.tmps) = true := by simp [Region.wanted, hg]
  rw [if_pos hw]
  exact Oper.wp_mono hK h) hs
theorem op_load_row {o : Oper} {a : Act} {w : World} {K : Act → World → Prop} (ty : TypeId) (x : Operand) (ho : o.op = .load ty x) (g : Nat) (hx : a.eval x = .pointer (some ⟨g, 0, none⟩)) (t : TypeId) (cs : Array Value) (fr : Nat × Nat) (d : TypeDesc)
  (hg : w.heap[g]? = some (.cells cs t fr)) (hu : P.underlying ty = some d) (hd : (match d with | .struct _ | .array _ _ => true | _ => false) = true) (hi : (P.info? ty).map (·.size) = some cs.size)
  (hk : K (a.put o.dst (.agg cs)) w) : o.wp P a w K Q := by
 unfold Oper.wp execOp
 simp only [ho, hx, Instr.loadAt, Instr.sureAddr, Sem.run_bind, Sem.run_pure, Result.andThen_ok, run_loadVar_row w g t ty cs fr d hg hu hd hi]
 exact hk
theorem op_call {o : Oper} {a : Act} {w : World} {K : Act → World → Prop} {f : FuncId} {args : Array Value} (hrun : (execOp a.eval o).run P w = .ok (.enter f args) w)
  (h : Calls P f args w fun e w' => ∃ v, e = .returned v ∧ K (a.put o.dst v) w') : o.wp P a w K Q := by
 unfold Oper.wp
 rw [hrun]
 exact h.mono fun e w' ⟨v, he, hk⟩ => by subst he; exact hk
theorem ready_load {fuel : Nat} {listed : Array Bool} {a : Act} {w : World} {i : Nat} {o : Oper} {rs : List Nat} (ho : ops[i]? = some o) (hgd : o.guard = none) (ty : TypeId) (x : Operand) (hop : o.op = .load ty x) (g : Nat) (hx : a.eval x = .pointer (some ⟨g, 0, none⟩)) (t : TypeId) (cs : Array Value) (fr : Nat × Nat) (d : TypeDesc)
  (hg : w.heap[g]? = some (.cells cs t fr)) (hu : P.underlying ty = some d) (hd : (match d with | .struct _ | .array _ _ => true | _ => false) = true) (hi : (P.info? ty).map (·.size) = some cs.size)
  (hk : wpAny P md ops Q fuel (listed.setIfInBounds i true) (a.put o.dst (.agg cs)) w) (hs : AllReady P md ops Q fuel listed a w rs) : AllReady P md ops Q fuel listed a w (i :: rs) :=
 ready_step ho hgd (op_load_row ty x hop g hx t cs fr d hg hu hd hi hk) hs
theorem ready_call {fuel : Nat} {listed : Array Bool} {a : Act} {w : World} {i : Nat} {o : Oper} {rs : List Nat} (f : FuncId) (args : Array Value) (ho : ops[i]? = some o) (hgd : o.guard = none) (hrun : (execOp a.eval o).run P w = .ok (.enter f args) w)
  (h : Calls P f args w fun e w' => ∃ v, e = .returned v ∧ wpAny P md ops Q fuel (listed.setIfInBounds i true) (a.put o.dst v) w') (hs : AllReady P md ops Q fuel listed a w rs) : AllReady P md ops Q fuel listed a w (i :: rs) :=
 ready_step ho hgd (op_call hrun h) hs
theorem ready_store {fuel : Nat} {listed : Array Bool} {a : Act} {w : World} {i : Nat} {o : Oper} {rs : List Nat} (ho : ops[i]? = some o) (hgd : o.guard = none) (ty : TypeId) (x y : Operand) (hop : o.op = .store ty x y) (b k : Nat) (cells : Array Value)
  (hx : a.eval x = .pointer (some ⟨b, k, none⟩)) (hy : a.eval y = .agg cells) (ht : w.there b k cells.size) (hi : (P.info? ty).map (·.size) = some cells.size) (h1 : cells.all (·.oneCell') = true)
  (h : wpAny P md ops Q fuel (listed.setIfInBounds i true) (a.put o.dst undef) (w.setCells b k cells.toList)) (hs : AllReady P md ops Q fuel listed a w rs) : AllReady P md ops Q fuel listed a w (i :: rs) :=
 ready_step ho hgd (wp_store_mid ty x y hop b k cells hx hy ht hi h1 h) hs
end
open Go.RowKit
theorem rinv_any (a : NI) (w : World) (ha : Dig a 16) : Cs 60 #[.agg (arr 16 a)] w (.agg (arr 16 (d16 (pwm (S a 16) (xbit 255 21) 255)))) := by
 go_enter Tryz.func60, Tryz.ntmps60
 go_wp2_with fail
 rw [show #[Value.int .u64 0, Value.int .u64 0, Value.int .u64 0, Value.int .u64 0, Value.int .u64 0, Value.int .u64 0, Value.int .u64 0, Value.int .u64 0, Value.int .u64 0, Value.int .u64 0, Value.int .u64 0, Value.int .u64 0, Value.int .u64 0, Value.int .u64 0, Value.int .u64 0, Value.int .u64 0] = arr 16 (fun _ => 0) from rfl]
 have R1 : Row ((w.alloc (.cells (arr 16 a) 108)).alloc (.cells (arr 16 fun _ => 0) 108)) w.heap.size 108 16 a := (Row.new w 108 16 a).alloc _
 have R2 : Row ((w.alloc (.cells (arr 16 a) 108)).alloc (.cells (arr 16 fun _ => 0) 108)) (w.heap.size + 1) 108 16 (fun _ => 0) := Row.new' _ 108 16 _ (by simp)
 have O : Below w.heap.size w ((w.alloc (.cells (arr 16 a) 108)).alloc (.cells (arr 16 fun _ => 0) 108)) := ((Below.refl _ _).alloc (Nat.le_refl _) _).alloc (by simp) _
 generalize ((w.alloc (.cells (arr 16 a) 108)).alloc (.cells (arr 16 fun _ => 0) 108)) = W at R1 R2 O ⊢
 refine region_cut (fun a0 a' w' => ∃ b : Nat, a' = ((a0.put (some 3) (.agg (arr 16 a))).put (some 4) (.slice (some ⟨b, 0, none⟩) 255 255)).put (some 5) (.agg (arr 16 (d16 (pwm (S a 16) (xbit 255 21) 255)))) ∧ Row w' (w.heap.size + 1) 108 16 (d16 (pwm (S a 16) (xbit 255 21) 255)) ∧ Below w.heap.size w w') (by kernel_rfl) ?_ ?_
 ·clear R1 R2 O
  rintro _ w' ⟨b, rfl, R, O⟩
  go_wp2
  exact bodyPost_ret (v := .agg (arr 16 (d16 (pwm (S a 16) (xbit 255 21) 255)))) (results_cell_row Tryz.results60 _ _ (w.heap.size + 1) 108 (arr 16 (d16 (pwm (S a 16) (xbit 255 21) 255))) (0, 0) _ rfl R Tryz.underlying108 rfl (info108 _)) rfl ⟨rfl, O⟩
 ·intro hrest
  replace R1 := rowD R1
  replace R2 := rowD R2
  replace O := O.drew
  refine wpAny_ready (rs := [0, 1]) (by kernel_rfl) (by simp) ?_
  refine ready_load rfl rfl 108 _ rfl w.heap.size (by kernel_rfl) 108 (arr 16 a) (0, 0) _ R1 Tryz.underlying108 rfl (info108 _) ?_ ?_
  ·refine wpAny_ready (rs := [1]) (by kernel_rfl) (by simp) ?_
   refine ready_call 89 #[.int .i64 255, .int .i64 21] rfl rfl (by kernel_rfl) ?_ ?_
   ·refine (bits_255 _).mono ?_
    rintro _ w2 ⟨b, rfl, _, HB, hb2⟩
    refine ⟨_, rfl, ?_⟩
    replace R1 := R1.keep hb2
    replace R2 := R2.keep hb2
    replace O := O.trans (hb2.mono O.size)
    clear hb2
    refine wpAny_ready (rs := [2]) (by kernel_rfl) (by simp) ?_
    refine ready_call 88 #[.agg (arr 16 a), .slice (some ⟨b, 0, none⟩) 255 255] rfl rfl (by kernel_rfl) ?_ ?_
    ·refine (power_any a 255 _ b _ ha HB (by decide)).mono ?_
     rintro _ w3 ⟨rfl, hb3⟩
     refine ⟨_, rfl, ?_⟩
     replace R1 := R1.keep hb3
     replace R2 := R2.keep hb3
     replace HB := HB.keep hb3
     replace O := O.trans (hb3.mono O.size)
     clear hb3
     refine wpAny_ready (rs := [3]) (by kernel_rfl) (by simp) ?_
     refine ready_store rfl rfl 108 _ _ rfl (w.heap.size + 1) 0 (arr 16 (d16 (pwm (S a 16) (xbit 255 21) 255))) (by kernel_rfl) (by kernel_rfl) (by rw [arr_size]; exact R2.there) (info108 _) (arr_one _ _) ?_ ?_
     ·exact wpAny_done (by kernel_rfl) (hrest _ _ ⟨b, by kernel_rfl, R2.setAll _, below_setCells (by omega) _ _ O⟩) _
     exact AllReady.nil
    exact AllReady.nil
   exact AllReady.nil
  refine ready_call 89 #[.int .i64 255, .int .i64 21] rfl rfl (by kernel_rfl) ?_ ?_
  ·refine (bits_255 _).mono ?_
   rintro _ w5 ⟨b, rfl, _, HB, hb5⟩
   refine ⟨_, rfl, ?_⟩
   replace R1 := R1.keep hb5
   replace R2 := R2.keep hb5
   replace O := O.trans (hb5.mono O.size)
   clear hb5
   refine wpAny_ready (rs := [0]) (by kernel_rfl) (by simp) ?_
   refine ready_load rfl rfl 108 _ rfl w.heap.size (by kernel_rfl) 108 (arr 16 a) (0, 0) _ R1 Tryz.underlying108 rfl (info108 _) ?_ ?_
   ·refine wpAny_ready (rs := [2]) (by kernel_rfl) (by simp) ?_
    refine ready_call 88 #[.agg (arr 16 a), .slice (some ⟨b, 0, none⟩) 255 255] rfl rfl (by kernel_rfl) ?_ ?_
    ·refine (power_any a 255 _ b _ ha HB (by decide)).mono ?_
     rintro _ w7 ⟨rfl, hb7⟩
     refine ⟨_, rfl, ?_⟩
     replace R1 := R1.keep hb7
     replace R2 := R2.keep hb7
     replace HB := HB.keep hb7
     replace O := O.trans (hb7.mono O.size)
     clear hb7
     refine wpAny_ready (rs := [3]) (by kernel_rfl) (by simp) ?_
     refine ready_store rfl rfl 108 _ _ rfl (w.heap.size + 1) 0 (arr 16 (d16 (pwm (S a 16) (xbit 255 21) 255))) (by kernel_rfl) (by kernel_rfl) (by rw [arr_size]; exact R2.there) (info108 _) (arr_one _ _) ?_ ?_
     ·exact wpAny_done (by kernel_rfl) (hrest _ _ ⟨b, by kernel_rfl, R2.setAll _, below_setCells (by omega) _ _ O⟩) _
     exact AllReady.nil
    exact AllReady.nil
   exact AllReady.nil
  exact AllReady.nil
open Go.RowKit
theorem Cg.pow {x y : Int} (h : Cg x y) : ∀ n : Nat, Cg (x ^ n) (y ^ n)
 | 0 => by rw [Int.pow_zero, Int.pow_zero]; exact Cg.refl _
 | n + 1 => by
  rw [Int.pow_succ, Int.pow_succ]
  exact (Cg.pow h n).mul h
theorem sqz_pow : ∀ (n : Nat) (y : Int), sqz y n = y ^ (2 ^ n)
 | 0, y => by simp [sqz, Int.pow_succ]
 | n + 1, y => by
  unfold sqz
  rw [sqz_pow n, Nat.pow_succ, Nat.mul_comm, Int.pow_mul, Int.pow_succ, Int.pow_succ, Int.pow_zero, Int.one_mul]
theorem onz_pow (x : Int) : ∀ n : Nat, onz x n = x ^ (2 ^ n - 1)
 | 0 => by simp [onz]
 | n + 1 => by
  have hp : 0 < 2 ^ n := Nat.two_pow_pos n
  unfold onz
  rw [onz_pow x n, ← Int.pow_add, ← Int.pow_succ]
  congr 1
  rw [Nat.pow_succ]
  omega
def exf (f : Nat → Bool) : Nat → Nat
 | 0 => 0
 | i + 1 => 2 * exf f i + (f i).toNat
theorem pwm_pow (x : Int) (f : Nat → Bool) : ∀ i, Cg (pwm x f i) (x ^ exf f i)
 | 0 => by simp [pwm, exf]; exact Cg.refl _
 | i + 1 => by
  have ih := pwm_pow x f i
  have h2 : Cg (pwm x f i * pwm x f i % Pm) (x ^ (2 * exf f i)) := by
   refine (cg_emod _).trans ?_
   rw [Nat.two_mul, Int.pow_add]
   exact ih.mul ih
  unfold pwm exf
  cases hf : f i
  ·rw [if_neg (by simp)]
   exact h2
  ·rw [if_pos rfl]
   refine (cg_emod _).trans ?_
   rw [Bool.toNat_true, Int.pow_succ]
   exact h2.mul (Cg.refl x)
theorem ex255 : exf (xbit 255 21) 255 = 2 ^ 255 - 21 := by decide +kernel
theorem invF_pow (x : E5) : Cg (invF x).n (x.n ^ (2 ^ 255 - 21)) := by
 refine (invF_n x).trans (Cg.of_eq ?_)
 rw [sqz_pow, sqz_pow, onz_pow, onz_pow, ← Int.pow_mul, ← Int.pow_add, ← Int.pow_add]
theorem rinv_val {x : E5} {A : Int} (h : Cg x.n A) : Cg (invF x).n (pwm A (xbit 255 21) 255) := by
 refine (invF_pow x).trans ((h.pow _).trans ?_)
 rw [← ex255]
 exact (pwm_pow A _ 255).symm
open Go.RowKit
def ad (a b : NI) (k : Nat) : Nat → Int := fun i => wid a 16 i + if i < k then b i else 0
theorem ad_48 {a b : NI} (ha : Dig a 16) (hb : Dig b 16) : B48 (ad a b 16) := ⟨fun i _ => by
 unfold ad wid
 by_cases hi : i < 16
 ·rw [if_pos hi, if_pos hi]
  have := ha i hi
  have := hb i hi
  omega
 ·rw [if_neg hi, if_neg hi]
  omega⟩
theorem S_add (f g : NI) : ∀ n, S (fun i => f i + g i) n = S f n + S g n
 | 0 => rfl
 | n + 1 => by
  have ih := S_add f g n
  simp only [S]
  rw [ih, Int.add_mul]
  omega
theorem ad_S (a b : NI) : S (ad a b 16) 32 = S a 16 + S b 16 := by
 have e : S (ad a b 16) 32 = S (wid a 16) 32 + S (wid b 16) 32 := by
  rw [← S_add]
  exact S_congr fun i _ => rfl
 rw [e, wid_S, wid_S]
theorem radd_any (a b : NI) (w : World) (ha : Dig a 16) (hb : Dig b 16) : Cs 57 #[.agg (arr 16 a), .agg (arr 16 b)] w (.agg (arr 16 (d16 ((S a 16 + S b 16) % Pm)))) := by
 go_enter Tryz.func57, Tryz.ntmps57
 have R1 : Row (((w.alloc (.cells (arr 16 a) 108)).alloc (.cells (arr 16 b) 108)).alloc (.cells (arr 16 fun _ => 0) 108)) w.heap.size 108 16 a := ((Row.new w 108 16 a).alloc _).alloc _
 have R2 : Row (((w.alloc (.cells (arr 16 a) 108)).alloc (.cells (arr 16 b) 108)).alloc (.cells (arr 16 fun _ => 0) 108)) (w.heap.size + 1) 108 16 b := (Row.new' _ 108 16 _ (by simp)).alloc _
 have R3 : Row (((w.alloc (.cells (arr 16 a) 108)).alloc (.cells (arr 16 b) 108)).alloc (.cells (arr 16 fun _ => 0) 108)) (w.heap.size + 1 + 1) 108 16 (fun _ => 0) := Row.new' _ 108 16 _ (by simp)
 have O : Below w.heap.size w (((w.alloc (.cells (arr 16 a) 108)).alloc (.cells (arr 16 b) 108)).alloc (.cells (arr 16 fun _ => 0) 108)) := (((Below.refl _ _).alloc (Nat.le_refl _) _).alloc (by simp) _).alloc (by simp; omega) _
 have HR := hide R1
 go_wp2_with (refine wpList_load_row rfl 108 _ rfl w.heap.size rfl 108 (arr 16 a) (0, 0) _ HR.out Tryz.underlying108 rfl (info108 _) ?_)
 clear HR R1
 rw [show #[Value.int .u64 0, Value.int .u64 0, Value.int .u64 0, Value.int .u64 0, Value.int .u64 0, Value.int .u64 0, Value.int .u64 0, Value.int .u64 0, Value.int .u64 0, Value.int .u64 0, Value.int .u64 0, Value.int .u64 0, Value.int .u64 0, Value.int .u64 0, Value.int .u64 0, Value.int .u64 0] = arr 16 (fun _ => 0) from rfl]
 refine (wide_any a _).mono ?_
 rintro _ w1 ⟨rfl, hb1⟩
 replace R2 := R2.keep hb1
 replace R3 := R3.keep hb1
 replace O := O.trans (hb1.mono O.size)
 clear hb1
 have gt1 := R3.lt
 have R : Row (w1.alloc (.cells #[Value.int .u64 0, Value.int .u64 0, Value.int .u64 0, Value.int .u64 0, Value.int .u64 0, Value.int .u64 0, Value.int .u64 0, Value.int .u64 0, Value.int .u64 0, Value.int .u64 0, Value.int .u64 0, Value.int .u64 0, Value.int .u64 0, Value.int .u64 0, Value.int .u64 0, Value.int .u64 0, Value.int .u64 0, Value.int .u64 0, Value.int .u64 0, Value.int .u64 0, Value.int .u64 0, Value.int .u64 0, Value.int .u64 0, Value.int .u64 0, Value.int .u64 0, Value.int .u64 0, Value.int .u64 0, Value.int .u64 0, Value.int .u64 0, Value.int .u64 0, Value.int .u64 0, Value.int .u64 0] 135)) w1.heap.size 135 32 (fun _ => 0) := Row.new w1 135 32 (fun _ => 0)
 have BB := below_setCells (g := w1.heap.size) (Nat.le_refl _) (arr 32 (wid a 16)).toList 0 (new_below w1 (.cells #[Value.int .u64 0, Value.int .u64 0, Value.int .u64 0, Value.int .u64 0, Value.int .u64 0, Value.int .u64 0, Value.int .u64 0, Value.int .u64 0, Value.int .u64 0, Value.int .u64 0, Value.int .u64 0, Value.int .u64 0, Value.int .u64 0, Value.int .u64 0, Value.int .u64 0, Value.int .u64 0, Value.int .u64 0, Value.int .u64 0, Value.int .u64 0, Value.int .u64 0, Value.int .u64 0, Value.int .u64 0, Value.int .u64 0, Value.int .u64 0, Value.int .u64 0, Value.int .u64 0, Value.int .u64 0, Value.int .u64 0, Value.int .u64 0, Value.int .u64 0, Value.int .u64 0, Value.int .u64 0] 135))
 have RR := hide (R.setAll (wid a 16))
 have R2' := hide (R2.keep BB)
 have R3' := hide (R3.keep BB)
 have O' := hide (O.trans (BB.mono O.size))
 clear R2 R3 O BB
 go_wp2_with (refine wpList_store_mid rfl 135 _ _ rfl w1.heap.size 0 (arr 32 (wid a 16)) rfl rfl (by rw [arr_size]; exact R.there) (info135 _) (arr_one _ _) ?_)
 try rw [show ∀ (a : Act) (v : Value), a.put none v = a from fun _ _ => rfl]
 replace R := RR.out
 have R2 := R2'.out
 have R3 := R3'.out
 have O := O'.out
 clear RR R2' R3' O'
 generalize w1.heap.size = gt at *
 generalize (w1.alloc (.cells #[Value.int .u64 0, Value.int .u64 0, Value.int .u64 0, Value.int .u64 0, Value.int .u64 0, Value.int .u64 0, Value.int .u64 0, Value.int .u64 0, Value.int .u64 0, Value.int .u64 0, Value.int .u64 0, Value.int .u64 0, Value.int .u64 0, Value.int .u64 0, Value.int .u64 0, Value.int .u64 0, Value.int .u64 0, Value.int .u64 0, Value.int .u64 0, Value.int .u64 0, Value.int .u64 0, Value.int .u64 0, Value.int .u64 0, Value.int .u64 0, Value.int .u64 0, Value.int .u64 0, Value.int .u64 0, Value.int .u64 0, Value.int .u64 0, Value.int .u64 0, Value.int .u64 0, Value.int .u64 0] 135)).setCells gt 0 (arr 32 (wid a 16)).toList = W2 at *
 go_loopw [6] (fun i wr => ∃ k : Nat, k ≤ 16 ∧ i = .int .i64 k ∧ Row wr gt 135 32 (ad a b k) ∧ Row wr (w.heap.size + 1) 108 16 b ∧ Row wr (w.heap.size + 1 + 1) 108 16 (fun _ => 0) ∧ Below w.heap.size w wr) (fun i _ => 16 - (intOf i).toNat)
 case atStart => exact ⟨0, by omega, rfl, R.congr (fun i _ => by unfold ad; rw [if_neg (by omega)]; omega), R2, R3, O⟩
 case round =>
  clear R R2 R3 O
  obtain ⟨k, hk, rfl, R, R2, R3, O⟩ := hrel
  by_cases hlt : k < 16
  ·have c := R.cell (i := k) (by omega)
   rw [show ad a b k k = a k by unfold ad wid; rw [if_pos hlt, if_neg (by omega)]; omega] at c
   have d := R2.cell hlt
   have e := R.free
   obtain ⟨a0, a1⟩ := ha k hlt
   obtain ⟨b0, b1⟩ := hb k hlt
   have i1 : (0 : Int) ≤ (k : Int) := by omega
   have i2 : (k : Int) < 16 := by omega
   go_wp2_with fail
   go_region
   go_wp2
   exact ⟨⟨k + 1, by omega, by go_num, rowD ((R.set k (a k + b k)).congr (fun i _ => by
    unfold upd ad
    by_cases h : i = k
    ·subst h
     rw [if_pos rfl, if_pos (by omega)]
     unfold wid
     rw [if_pos hlt]
    ·rw [if_neg h]
     by_cases h2 : i < k
     ·rw [if_pos h2, if_pos (by omega)]
     ·rw [if_neg h2, if_neg (by omega)])), rowD (R2.other (a := ⟨gt, k, none⟩) (by simp; omega) _), rowD (R3.other (a := ⟨gt, k, none⟩) (by simp; omega) _), (O.setCell (p := ⟨gt, k, none⟩) (by simp; omega) _).drew⟩, by simp [intOf]; omega⟩
  ·have hk' : k = 16 := by omega
   subst hk'
   have HR := hide R
   clear R R2
   go_wp2_with (refine wpList_load_row rfl 135 _ rfl gt rfl 135 (arr 32 (ad a b 16)) (0, 0) _ HR.out Tryz.underlying135 rfl (info135 _) ?_)
   try rw [show ∀ (a : Act) (v : Value), a.put none v = a from fun _ _ => rfl]
   refine (reduce_any (ad a b 16) _ (ad_48 ha hb)).mono ?_
   rintro _ w3 ⟨rfl, hb3⟩
   replace R3 := R3.keep hb3
   replace O := O.trans (hb3.mono O.size)
   clear hb3 HR
   rw [ad_S]
   have RR := hide (R3.setAll (d16 ((S a 16 + S b 16) % Pm)))
   have OO := hide (below_setCells (g := w.heap.size + 1 + 1) (by omega) (arr 16 (d16 ((S a 16 + S b 16) % Pm))).toList 0 O)
   go_wp2_with (refine wpList_store_mid rfl 108 _ _ rfl (w.heap.size + 1 + 1) 0 (arr 16 (d16 ((S a 16 + S b 16) % Pm))) rfl rfl (by rw [arr_size]; exact R3.there) (info108 _) (arr_one _ _) ?_)
   exact bodyPost_ret (v := .agg (arr 16 (d16 ((S a 16 + S b 16) % Pm)))) (results_cell_row Tryz.results57 _ _ (w.heap.size + 1 + 1) 108 (arr 16 (d16 ((S a 16 + S b 16) % Pm))) (0, 0) _ rfl RR.out Tryz.underlying108 rfl (info108 _)) rfl ⟨rfl, OO.out⟩
end Go.Proofs.YtiahdbibeleakaaGreatDoor.Mon
