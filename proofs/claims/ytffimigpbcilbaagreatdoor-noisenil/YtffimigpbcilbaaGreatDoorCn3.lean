/- Part 3 of the walks and facts. -/
import Derived.Test.YtffimigpbcilbaaGreatDoorCnDef
import Derived.Test.YtffimigpbcilbaaGreatDoorCn1
import Derived.Test.YtffimigpbcilbaaGreatDoorCn2
import Derived.BigQuiet
import Derived.Laws.Bits64
import Derived.Laws.Bits64b
import Derived.Laws.BitsAllLaws
import Derived.Laws.Externs
import Derived.Laws.Rows
import Derived.Laws.StructEq
import Derived.Lib.Mul64
import Derived.StillTail
import Derived.Test.YtffimigpbcilbaaGreatDoorRows
import Derived.WalkKit
import Derived.WalkLawsBesides
import Derived.WalkSpells
set_option maxHeartbeats 16000000
set_option maxRecDepth 100000
namespace Go.Proofs.YtffimigpbcilbaaGreatDoor.Mon
open Go.RowKit
theorem hide {p : Prop} (h : p) : Hid p := h
def Pm : Int := 57896044618658097711785492504343953926634992332820282019728792003956564819949
def Cg (x y : Int) : Prop := ∃ k : Int, x = y + k * Pm
theorem Cg.refl (x : Int) : Cg x x := ⟨0, by omega⟩
theorem Cg.of_eq {x y : Int} (h : x = y) : Cg x y := ⟨0, by omega⟩
theorem Cg.symm {x y : Int} (h : Cg x y) : Cg y x := by
 obtain ⟨k, h⟩ := h
 exact ⟨-k, by rw [h, Int.neg_mul]; omega⟩
theorem Cg.trans {x y z : Int} (h : Cg x y) (g : Cg y z) : Cg x z := by
 obtain ⟨k, h⟩ := h
 obtain ⟨l, g⟩ := g
 exact ⟨k + l, by rw [h, g, Int.add_mul]; omega⟩
theorem Cg.add {x y u v : Int} (h : Cg x y) (g : Cg u v) : Cg (x + u) (y + v) := by
 obtain ⟨k, h⟩ := h
 obtain ⟨l, g⟩ := g
 exact ⟨k + l, by rw [h, g, Int.add_mul]; omega⟩
theorem Cg.neg {x y : Int} (h : Cg x y) : Cg (-x) (-y) := by
 obtain ⟨k, h⟩ := h
 exact ⟨-k, by rw [h, Int.neg_mul]; omega⟩
theorem Cg.sub {x y u v : Int} (h : Cg x y) (g : Cg u v) : Cg (x - u) (y - v) := by
 have := h.add g.neg
 simpa [Int.sub_eq_add_neg] using this
theorem Cg.mul {x y u v : Int} (h : Cg x y) (g : Cg u v) : Cg (x * u) (y * v) := by
 obtain ⟨k, h⟩ := h
 obtain ⟨l, g⟩ := g
 refine ⟨y * l + k * v + k * l * Pm, ?_⟩
 rw [h, g]
 simp only [Int.add_mul, Int.mul_add, Int.mul_assoc, Int.mul_comm Pm, Int.mul_left_comm]
 have e : k * (Pm * v) = k * (v * Pm) := by rw [Int.mul_comm Pm]
 omega
theorem Cg.emod {x y : Int} (h : Cg x y) : x % Pm = y % Pm := by
 obtain ⟨k, h⟩ := h
 rw [h, Int.add_mul_emod_self_right]
theorem Cg.of_emod {x y : Int} (h : x % Pm = y % Pm) : Cg x y := by
 refine ⟨x / Pm - y / Pm, ?_⟩
 have a := Int.mul_ediv_add_emod x Pm
 have b := Int.mul_ediv_add_emod y Pm
 rw [Int.sub_mul, Int.mul_comm (x / Pm), Int.mul_comm (y / Pm)]
 omega
theorem cg_emod (x : Int) : Cg (x % Pm) x := Cg.of_emod (Int.emod_emod_of_dvd x (Int.dvd_refl _))
theorem Cg.sub_P (x k : Int) : Cg (x - k * Pm) x := ⟨-k, by rw [Int.neg_mul]; omega⟩
structure E5 where
 a : Int
 b : Int
 c : Int
 d : Int
 e : Int
abbrev E5.v (x : E5) : Value := .agg #[.int .u64 x.a, .int .u64 x.b, .int .u64 x.c, .int .u64 x.d, .int .u64 x.e]
def E5.n (x : E5) : Int := x.a + 2251799813685248 * x.b + 5070602400912917605986812821504 * x.c + 11417981541647679048466287755595961091061972992 * x.d + 25711008708143844408671393477458601640355247900524685364822016 * x.e
structure E5.Ok (x : E5) : Prop where
 a0 : 0 ≤ x.a
 a1 : x.a ≤ 2251799813840876
 b0 : 0 ≤ x.b
 b1 : x.b ≤ 2251799813840876
 c0 : 0 ≤ x.c
 c1 : x.c ≤ 2251799813840876
 d0 : 0 ≤ x.d
 d1 : x.d ≤ 2251799813840876
 e0 : 0 ≤ x.e
 e1 : x.e ≤ 2251799813840876
def W64 (x : Int) : Prop := 0 ≤ x ∧ x < 18446744073709551616
theorem and51 {x : Int} (h : W64 x) : bits .and .u64 x 2251799813685247 = x % 2251799813685248 := by
 rw [u64_and x _ h.1 h.2 (by decide) (by decide)]
 have e : (2251799813685247 : Int).toNat = 2251799813685247 := by decide
 rw [e, nat_mask51]
 have := h.1
 omega
theorem wrap64u {x : Int} (h : W64 x) : IntKind.u64.wrap x = x := by
 rw [IntKind.wrap_u64]
 exact Int.emod_eq_of_lt h.1 h.2
theorem or_join (i K : Nat) (hK : K = 2 ^ i) {x y : Int} (hx : W64 x) (hy : W64 y) (h1 : x % (K : Int) = 0) (h2 : y < (K : Int)) : bits .or .u64 x y = x + y := by
 rw [u64_or x y hx.1 hx.2 hy.1 hy.2]
 have a := hx.1
 have b := hy.1
 obtain ⟨X, rfl⟩ := Int.eq_ofNat_of_zero_le a
 obtain ⟨Y, rfl⟩ := Int.eq_ofNat_of_zero_le b
 simp only [Int.toNat_natCast]
 have h1' : X % K = 0 := by exact_mod_cast h1
 have h2' : Y < K := by omega
 subst hK
 rw [nat_join i X Y h1' h2']
 omega
theorem or_join' (i K : Nat) (hK : K = 2 ^ i) {x y : Int} (hx : W64 x) (hy : W64 y) (h1 : y % (K : Int) = 0) (h2 : x < (K : Int)) : bits .or .u64 x y = x + y := by
 rw [u64_or x y hx.1 hx.2 hy.1 hy.2]
 have a := hx.1
 have b := hy.1
 obtain ⟨X, rfl⟩ := Int.eq_ofNat_of_zero_le a
 obtain ⟨Y, rfl⟩ := Int.eq_ofNat_of_zero_le b
 simp only [Int.toNat_natCast]
 have h1' : Y % K = 0 := by exact_mod_cast h1
 have h2' : X < K := by omega
 subst hK
 rw [Nat.or_comm, nat_join i Y X h1' h2']
 omega
def car (a b c d e : Int) : E5 := ⟨a % 2251799813685248 + e / 2251799813685248 * 19, b % 2251799813685248 + a / 2251799813685248, c % 2251799813685248 + b / 2251799813685248, d % 2251799813685248 + c / 2251799813685248, e % 2251799813685248 + d / 2251799813685248⟩
theorem car_ok {a b c d e : Int} (ha : W64 a) (hb : W64 b) (hc : W64 c) (hd : W64 d) (he : W64 e) : (car a b c d e).Ok := by
 unfold W64 at *
 constructor <;> simp only [car] <;> omega
theorem car_n (a b c d e : Int) : Cg (car a b c d e).n (E5.n ⟨a, b, c, d, e⟩) := by
 refine ⟨- (e / 2251799813685248), ?_⟩
 simp only [car, E5.n, Pm]
 omega
def addF (x y : E5) : E5 := car (x.a + y.a) (x.b + y.b) (x.c + y.c) (x.d + y.d) (x.e + y.e)
def subF (x y : E5) : E5 := car (x.a + 4503599627370458 - y.a) (x.b + 4503599627370494 - y.b) (x.c + 4503599627370494 - y.c) (x.d + 4503599627370494 - y.d) (x.e + 4503599627370494 - y.e)
def zeroE : E5 := ⟨0, 0, 0, 0, 0⟩
def smallF (n : Int) : E5 := car n 0 0 0 0
theorem zeroE_ok : zeroE.Ok := ⟨by decide, by decide, by decide, by decide, by decide, by decide, by decide, by decide, by decide, by decide⟩
theorem zeroE_n : zeroE.n = 0 := by decide
theorem addF_ok {x y : E5} (hx : x.Ok) (hy : y.Ok) : (addF x y).Ok := by
 obtain ⟨a0, a1, b0, b1, c0, c1, d0, d1, e0, e1⟩ := hx
 obtain ⟨f0, f1, g0, g1, h0, h1, i0, i1, j0, j1⟩ := hy
 exact car_ok ⟨by omega, by omega⟩ ⟨by omega, by omega⟩ ⟨by omega, by omega⟩ ⟨by omega, by omega⟩ ⟨by omega, by omega⟩
theorem addF_n (x y : E5) : Cg (addF x y).n (x.n + y.n) := (car_n _ _ _ _ _).trans (Cg.of_eq (by simp only [E5.n]; omega))
theorem subF_ok {x y : E5} (hx : x.Ok) (hy : y.Ok) : (subF x y).Ok := by
 obtain ⟨a0, a1, b0, b1, c0, c1, d0, d1, e0, e1⟩ := hx
 obtain ⟨f0, f1, g0, g1, h0, h1, i0, i1, j0, j1⟩ := hy
 exact car_ok ⟨by omega, by omega⟩ ⟨by omega, by omega⟩ ⟨by omega, by omega⟩ ⟨by omega, by omega⟩ ⟨by omega, by omega⟩
theorem subF_n (x y : E5) : Cg (subF x y).n (x.n - y.n) := (car_n _ _ _ _ _).trans ⟨2, by simp only [E5.n, Pm]; omega⟩
theorem smallF_ok {n : Int} (h0 : 0 ≤ n) (h1 : n < 4294967296) : (smallF n).Ok := car_ok ⟨by omega, by omega⟩ ⟨by decide, by decide⟩ ⟨by decide, by decide⟩ ⟨by decide, by decide⟩ ⟨by decide, by decide⟩
theorem smallF_n (n : Int) : Cg (smallF n).n n := (car_n _ _ _ _ _).trans (Cg.of_eq (by simp only [E5.n]; omega))
def m0 (x y : E5) : Int := x.a * y.a + x.b * (y.e * 19) + x.c * (y.d * 19) + x.d * (y.c * 19) + x.e * (y.b * 19)
def m1 (x y : E5) : Int := x.a * y.b + x.b * y.a + x.c * (y.e * 19) + x.d * (y.d * 19) + x.e * (y.c * 19)
def m2 (x y : E5) : Int := x.a * y.c + x.b * y.b + x.c * y.a + x.d * (y.e * 19) + x.e * (y.d * 19)
def m3 (x y : E5) : Int := x.a * y.d + x.b * y.c + x.c * y.b + x.d * y.a + x.e * (y.e * 19)
def m4 (x y : E5) : Int := x.a * y.e + x.b * y.d + x.c * y.c + x.d * y.b + x.e * y.a
def mulF (x y : E5) : E5 := car (m0 x y % 2251799813685248 + m4 x y / 2251799813685248 * 19) (m1 x y % 2251799813685248 + m0 x y / 2251799813685248) (m2 x y % 2251799813685248 + m1 x y / 2251799813685248) (m3 x y % 2251799813685248 + m2 x y / 2251799813685248) (m4 x y % 2251799813685248 + m3 x y / 2251799813685248)
theorem mb {a b : Int} (a0 : 0 ≤ a) (a1 : a ≤ 2251799813840876) (b0 : 0 ≤ b) (b1 : b ≤ 42784196462976644) : 0 ≤ a * b ∧ a * b ≤ 96341445630662272367569520500144 :=
 ⟨Int.mul_nonneg a0 b0, Int.le_trans (Int.mul_le_mul a1 b1 b0 (by decide)) (by decide)⟩
structure MB (x y : E5) : Prop where
 aa : 0 ≤ x.a * y.a ∧ x.a * y.a ≤ 96341445630662272367569520500144
 ab : 0 ≤ x.a * y.b ∧ x.a * y.b ≤ 96341445630662272367569520500144
 ac : 0 ≤ x.a * y.c ∧ x.a * y.c ≤ 96341445630662272367569520500144
 ad : 0 ≤ x.a * y.d ∧ x.a * y.d ≤ 96341445630662272367569520500144
 ae : 0 ≤ x.a * y.e ∧ x.a * y.e ≤ 96341445630662272367569520500144
 ba : 0 ≤ x.b * y.a ∧ x.b * y.a ≤ 96341445630662272367569520500144
 bb : 0 ≤ x.b * y.b ∧ x.b * y.b ≤ 96341445630662272367569520500144
 bc : 0 ≤ x.b * y.c ∧ x.b * y.c ≤ 96341445630662272367569520500144
 bd : 0 ≤ x.b * y.d ∧ x.b * y.d ≤ 96341445630662272367569520500144
 be : 0 ≤ x.b * y.e ∧ x.b * y.e ≤ 96341445630662272367569520500144
 ca : 0 ≤ x.c * y.a ∧ x.c * y.a ≤ 96341445630662272367569520500144
 cb : 0 ≤ x.c * y.b ∧ x.c * y.b ≤ 96341445630662272367569520500144
 cc : 0 ≤ x.c * y.c ∧ x.c * y.c ≤ 96341445630662272367569520500144
 cd : 0 ≤ x.c * y.d ∧ x.c * y.d ≤ 96341445630662272367569520500144
 ce : 0 ≤ x.c * y.e ∧ x.c * y.e ≤ 96341445630662272367569520500144
 da : 0 ≤ x.d * y.a ∧ x.d * y.a ≤ 96341445630662272367569520500144
 db : 0 ≤ x.d * y.b ∧ x.d * y.b ≤ 96341445630662272367569520500144
 dc : 0 ≤ x.d * y.c ∧ x.d * y.c ≤ 96341445630662272367569520500144
 dd : 0 ≤ x.d * y.d ∧ x.d * y.d ≤ 96341445630662272367569520500144
 de : 0 ≤ x.d * y.e ∧ x.d * y.e ≤ 96341445630662272367569520500144
 ea : 0 ≤ x.e * y.a ∧ x.e * y.a ≤ 96341445630662272367569520500144
 eb : 0 ≤ x.e * y.b ∧ x.e * y.b ≤ 96341445630662272367569520500144
 ec : 0 ≤ x.e * y.c ∧ x.e * y.c ≤ 96341445630662272367569520500144
 ed : 0 ≤ x.e * y.d ∧ x.e * y.d ≤ 96341445630662272367569520500144
 ee : 0 ≤ x.e * y.e ∧ x.e * y.e ≤ 96341445630662272367569520500144
 bb' : 0 ≤ x.b * (y.b * 19) ∧ x.b * (y.b * 19) ≤ 96341445630662272367569520500144
 bc' : 0 ≤ x.b * (y.c * 19) ∧ x.b * (y.c * 19) ≤ 96341445630662272367569520500144
 bd' : 0 ≤ x.b * (y.d * 19) ∧ x.b * (y.d * 19) ≤ 96341445630662272367569520500144
 be' : 0 ≤ x.b * (y.e * 19) ∧ x.b * (y.e * 19) ≤ 96341445630662272367569520500144
 cb' : 0 ≤ x.c * (y.b * 19) ∧ x.c * (y.b * 19) ≤ 96341445630662272367569520500144
 cc' : 0 ≤ x.c * (y.c * 19) ∧ x.c * (y.c * 19) ≤ 96341445630662272367569520500144
 cd' : 0 ≤ x.c * (y.d * 19) ∧ x.c * (y.d * 19) ≤ 96341445630662272367569520500144
 ce' : 0 ≤ x.c * (y.e * 19) ∧ x.c * (y.e * 19) ≤ 96341445630662272367569520500144
 db' : 0 ≤ x.d * (y.b * 19) ∧ x.d * (y.b * 19) ≤ 96341445630662272367569520500144
 dc' : 0 ≤ x.d * (y.c * 19) ∧ x.d * (y.c * 19) ≤ 96341445630662272367569520500144
 dd' : 0 ≤ x.d * (y.d * 19) ∧ x.d * (y.d * 19) ≤ 96341445630662272367569520500144
 de' : 0 ≤ x.d * (y.e * 19) ∧ x.d * (y.e * 19) ≤ 96341445630662272367569520500144
 eb' : 0 ≤ x.e * (y.b * 19) ∧ x.e * (y.b * 19) ≤ 96341445630662272367569520500144
 ec' : 0 ≤ x.e * (y.c * 19) ∧ x.e * (y.c * 19) ≤ 96341445630662272367569520500144
 ed' : 0 ≤ x.e * (y.d * 19) ∧ x.e * (y.d * 19) ≤ 96341445630662272367569520500144
 ee' : 0 ≤ x.e * (y.e * 19) ∧ x.e * (y.e * 19) ≤ 96341445630662272367569520500144
theorem MB.of {x y : E5} (hx : x.Ok) (hy : y.Ok) : MB x y := ⟨mb hx.a0 hx.a1 hy.a0 (by have := hy.a1; omega), mb hx.a0 hx.a1 hy.b0 (by have := hy.b1; omega), mb hx.a0 hx.a1 hy.c0 (by have := hy.c1; omega), mb hx.a0 hx.a1 hy.d0 (by have := hy.d1; omega), mb hx.a0 hx.a1 hy.e0 (by have := hy.e1; omega), mb hx.b0 hx.b1 hy.a0 (by have := hy.a1; omega), mb hx.b0 hx.b1 hy.b0 (by have := hy.b1; omega), mb hx.b0 hx.b1 hy.c0 (by have := hy.c1; omega), mb hx.b0 hx.b1 hy.d0 (by have := hy.d1; omega), mb hx.b0 hx.b1 hy.e0 (by have := hy.e1; omega), mb hx.c0 hx.c1 hy.a0 (by have := hy.a1; omega), mb hx.c0 hx.c1 hy.b0 (by have := hy.b1; omega), mb hx.c0 hx.c1 hy.c0 (by have := hy.c1; omega), mb hx.c0 hx.c1 hy.d0 (by have := hy.d1; omega), mb hx.c0 hx.c1 hy.e0 (by have := hy.e1; omega), mb hx.d0 hx.d1 hy.a0 (by have := hy.a1; omega), mb hx.d0 hx.d1 hy.b0 (by have := hy.b1; omega), mb hx.d0 hx.d1 hy.c0 (by have := hy.c1; omega), mb hx.d0 hx.d1 hy.d0 (by have := hy.d1; omega), mb hx.d0 hx.d1 hy.e0 (by have := hy.e1; omega), mb hx.e0 hx.e1 hy.a0 (by have := hy.a1; omega), mb hx.e0 hx.e1 hy.b0 (by have := hy.b1; omega), mb hx.e0 hx.e1 hy.c0 (by have := hy.c1; omega), mb hx.e0 hx.e1 hy.d0 (by have := hy.d1; omega), mb hx.e0 hx.e1 hy.e0 (by have := hy.e1; omega), mb hx.b0 hx.b1 (by have := hy.b0; omega) (by have := hy.b1; omega), mb hx.b0 hx.b1 (by have := hy.c0; omega) (by have := hy.c1; omega), mb hx.b0 hx.b1 (by have := hy.d0; omega) (by have := hy.d1; omega), mb hx.b0 hx.b1 (by have := hy.e0; omega) (by have := hy.e1; omega), mb hx.c0 hx.c1 (by have := hy.b0; omega) (by have := hy.b1; omega), mb hx.c0 hx.c1 (by have := hy.c0; omega) (by have := hy.c1; omega), mb hx.c0 hx.c1 (by have := hy.d0; omega) (by have := hy.d1; omega), mb hx.c0 hx.c1 (by have := hy.e0; omega) (by have := hy.e1; omega), mb hx.d0 hx.d1 (by have := hy.b0; omega) (by have := hy.b1; omega), mb hx.d0 hx.d1 (by have := hy.c0; omega) (by have := hy.c1; omega), mb hx.d0 hx.d1 (by have := hy.d0; omega) (by have := hy.d1; omega), mb hx.d0 hx.d1 (by have := hy.e0; omega) (by have := hy.e1; omega), mb hx.e0 hx.e1 (by have := hy.b0; omega) (by have := hy.b1; omega), mb hx.e0 hx.e1 (by have := hy.c0; omega) (by have := hy.c1; omega), mb hx.e0 hx.e1 (by have := hy.d0; omega) (by have := hy.d1; omega), mb hx.e0 hx.e1 (by have := hy.e0; omega) (by have := hy.e1; omega)⟩
structure MS (x y : E5) : Prop where
 s0 : 0 ≤ m0 x y ∧ m0 x y ≤ 481707228153311361837847602500720
 s1 : 0 ≤ m1 x y ∧ m1 x y ≤ 481707228153311361837847602500720
 s2 : 0 ≤ m2 x y ∧ m2 x y ≤ 481707228153311361837847602500720
 s3 : 0 ≤ m3 x y ∧ m3 x y ≤ 481707228153311361837847602500720
 s4 : 0 ≤ m4 x y ∧ m4 x y ≤ 481707228153311361837847602500720
theorem MS.of {x y : E5} (hx : x.Ok) (hy : y.Ok) : MS x y := by
 have B := MB.of hx hy
 refine ⟨?_, ?_, ?_, ?_, ?_⟩
 ·unfold m0; have := B.aa; have := B.be'; have := B.cd'; have := B.dc'; have := B.eb'; omega
 ·unfold m1; have := B.ab; have := B.ba; have := B.ce'; have := B.dd'; have := B.ec'; omega
 ·unfold m2; have := B.ac; have := B.bb; have := B.ca; have := B.de'; have := B.ed'; omega
 ·unfold m3; have := B.ad; have := B.bc; have := B.cb; have := B.da; have := B.ee'; omega
 ·unfold m4; have := B.ae; have := B.bd; have := B.cc; have := B.db; have := B.ea; omega
theorem mulF_ok {x y : E5} (hx : x.Ok) (hy : y.Ok) : (mulF x y).Ok := by
 obtain ⟨h0, h1, h2, h3, h4⟩ := MS.of hx hy
 unfold mulF
 generalize m0 x y = n0 at *
 generalize m1 x y = n1 at *
 generalize m2 x y = n2 at *
 generalize m3 x y = n3 at *
 generalize m4 x y = n4 at *
 exact car_ok ⟨by omega, by omega⟩ ⟨by omega, by omega⟩ ⟨by omega, by omega⟩ ⟨by omega, by omega⟩ ⟨by omega, by omega⟩
theorem mul19 (p q : Int) : p * (q * 19) = 19 * (p * q) := by rw [← Int.mul_assoc, Int.mul_comm]
theorem mulF_n (x y : E5) : Cg (mulF x y).n (x.n * y.n) := by
 refine (car_n _ _ _ _ _).trans ?_
 have he : Cg (E5.n ⟨m0 x y % 2251799813685248 + m4 x y / 2251799813685248 * 19, m1 x y % 2251799813685248 + m0 x y / 2251799813685248, m2 x y % 2251799813685248 + m1 x y / 2251799813685248, m3 x y % 2251799813685248 + m2 x y / 2251799813685248, m4 x y % 2251799813685248 + m3 x y / 2251799813685248⟩) (E5.n ⟨m0 x y, m1 x y, m2 x y, m3 x y, m4 x y⟩) := by
  refine ⟨- (m4 x y / 2251799813685248), ?_⟩
  simp only [E5.n, Pm]
  omega
 refine he.trans ?_
 clear he
 obtain ⟨a, b, c, d, e⟩ := x
 obtain ⟨f, g, h, i, j⟩ := y
 refine ⟨- (b * j + c * i + d * h + e * g) - 2251799813685248 * (c * j + d * i + e * h) - 5070602400912917605986812821504 * (d * j + e * i) - 11417981541647679048466287755595961091061972992 * (e * j), ?_⟩
 obtain ⟨X, hX⟩ : ∃ X, X = E5.n ⟨a, b, c, d, e⟩ * E5.n ⟨f, g, h, i, j⟩ := ⟨_, rfl⟩
 rw [← hX]
 simp only [E5.n, Int.add_mul, Int.mul_add, Int.mul_assoc, Int.mul_left_comm a (2251799813685248 : Int), Int.mul_left_comm a (5070602400912917605986812821504 : Int), Int.mul_left_comm a (11417981541647679048466287755595961091061972992 : Int), Int.mul_left_comm a (25711008708143844408671393477458601640355247900524685364822016 : Int), Int.mul_left_comm b (2251799813685248 : Int), Int.mul_left_comm b (5070602400912917605986812821504 : Int), Int.mul_left_comm b (11417981541647679048466287755595961091061972992 : Int), Int.mul_left_comm b (25711008708143844408671393477458601640355247900524685364822016 : Int), Int.mul_left_comm c (2251799813685248 : Int), Int.mul_left_comm c (5070602400912917605986812821504 : Int), Int.mul_left_comm c (11417981541647679048466287755595961091061972992 : Int), Int.mul_left_comm c (25711008708143844408671393477458601640355247900524685364822016 : Int), Int.mul_left_comm d (2251799813685248 : Int), Int.mul_left_comm d (5070602400912917605986812821504 : Int), Int.mul_left_comm d (11417981541647679048466287755595961091061972992 : Int), Int.mul_left_comm d (25711008708143844408671393477458601640355247900524685364822016 : Int), Int.mul_left_comm e (2251799813685248 : Int), Int.mul_left_comm e (5070602400912917605986812821504 : Int), Int.mul_left_comm e (11417981541647679048466287755595961091061972992 : Int), Int.mul_left_comm e (25711008708143844408671393477458601640355247900524685364822016 : Int)] at hX
 simp only [E5.n, m0, m1, m2, m3, m4, mul19, Pm]
 omega
end Go.Proofs.YtffimigpbcilbaaGreatDoor.Mon
/- Numbers modulo a prime are the powers of one of them: shown by the factors of the prime without 1.
   2^255 - 19 is a prime, and each number modulo it but 0 is a power of 2. The order of the base point is a prime. -/
namespace Go.Proofs.YtffimigpbcilbaaGreatDoor.Mon
def IsP (p : Nat) : Prop := 1 < p ∧ ∀ d, d ∣ p → d = 1 ∨ d = p
def pmf (m : Nat) : Nat → Nat → Nat → Nat
 | 0, _, _ => 1 % m
 | f + 1, a, e => pmf m f (a * a % m) (e / 2) * a ^ (e % 2) % m
theorem pmf_eq (m : Nat) : ∀ (f a e : Nat), e < 2 ^ f → pmf m f a e = a ^ e % m
 | 0, a, e, h => by
  have : e = 0 := by simp at h; exact h
  subst this
  rfl
 | f + 1, a, e, h => by
  have h2 : e / 2 < 2 ^ f := by rw [Nat.pow_succ] at h; omega
  unfold pmf
  rw [pmf_eq m f _ _ h2, ← Nat.pow_mod, Nat.mod_mul_mod, ← Nat.pow_two, ← Nat.pow_mul, ← Nat.pow_add, show 2 * (e / 2) + e % 2 = e by omega]
theorem one_pow_mod {n x : Nat} (hn : 1 < n) (h : x % n = 1) (k : Nat) : x ^ k % n = 1 := by
 rw [Nat.pow_mod, h, Nat.one_pow, Nat.mod_eq_of_lt hn]
theorem mul_one_mod {n x y : Nat} (h : x % n = 1) : x * y % n = y % n := by
 rw [Nat.mul_mod, h, Nat.one_mul, Nat.mod_mod]
theorem pow_gcd {n g : Nat} (hn : 1 < n) (d e : Nat) : g ^ d % n = 1 → g ^ e % n = 1 → g ^ Nat.gcd d e % n = 1 := by
 induction d, e using Nat.gcd.induction with
 | H0 e => intro _ h; rwa [Nat.gcd_zero_left]
 | H1 d e _ ih =>
  intro h1 h2
  rw [Nat.gcd_rec]
  refine ih ?_ h1
  have e1 : g ^ e = (g ^ d) ^ (e / d) * g ^ (e % d) := by rw [← Nat.pow_mul, ← Nat.pow_add, Nat.div_add_mod]
  rw [e1, mul_one_mod (one_pow_mod hn h1 _)] at h2
  exact h2
def prod : List Nat → Nat
 | [] => 1
 | x :: l => x * prod l
theorem prod_coprime {m : Nat} : ∀ (l : List Nat), (∀ x ∈ l, Nat.Coprime x m) → Nat.Coprime (prod l) m
 | [], _ => Nat.coprime_one_left m
 | x :: l, h => Nat.Coprime.mul_left (h x (List.mem_cons_self)) (prod_coprime l fun y hy => h y (List.mem_cons_of_mem _ hy))
theorem divides_part {d N : Nat} (l : List Nat) (hl : ∀ x ∈ l, IsP x) (hN : prod l = N) (hd : d ∣ N) (hne : d ≠ N) : ∃ x ∈ l, d ∣ N / x := by
 obtain ⟨m, hm⟩ := hd
 by_cases h : ∃ x ∈ l, x ∣ m
 ·obtain ⟨x, hx, y, hy⟩ := h
  refine ⟨x, hx, y, ?_⟩
  have hx0 : 0 < x := by have := (hl x hx).1; omega
  rw [hm, hy, Nat.mul_left_comm, Nat.mul_div_cancel_left _ hx0]
 ·exfalso
  have hc : ∀ x ∈ l, Nat.Coprime x m := fun x hx => by
   rcases (hl x hx).2 _ (Nat.gcd_dvd_left x m) with h1 | h1
   ·exact h1
   ·exact absurd ⟨x, hx, h1 ▸ Nat.gcd_dvd_right x m⟩ h
  have hp := prod_coprime l hc
  rw [hN] at hp
  have : m ∣ Nat.gcd N m := Nat.dvd_gcd ⟨d, by rw [hm, Nat.mul_comm]⟩ (Nat.dvd_refl m)
  rw [hp] at this
  have m1 : m = 1 := Nat.dvd_one.1 this
  rw [m1, Nat.mul_one] at hm
  exact hne hm.symm
theorem pigeon : ∀ (n : Nat) (f : Nat → Nat), (∀ i, i < n → f i < n) → (∀ i j, i < n → j < n → f i = f j → i = j) → ∀ y, y < n → ∃ i, i < n ∧ f i = y
 | 0, _, _, _, y, hy => by omega
 | n + 1, f, hf, hi, y, hy => by
  by_cases hl : ∃ i, i < n ∧ f i = n
  ·obtain ⟨i0, hi0, he0⟩ := hl
   have hfn : f n < n := by
    have h1 := hf n (by omega)
    have h2 : f n ≠ n := fun h => by
     have := hi n i0 (by omega) (by omega) (h.trans he0.symm)
     omega
    omega
   have ih := pigeon n (fun i => if i = i0 then f n else f i) (fun i h => by
    by_cases e : i = i0
    ·simp only [e, if_true]; exact hfn
    ·simp only [e, if_false]
     have h1 := hf i (by omega)
     have h2 : f i ≠ n := fun h3 => e (hi i i0 (by omega) (by omega) (h3.trans he0.symm))
     omega) (fun i j h1 h2 h3 => by
    by_cases e1 : i = i0
    ·by_cases e2 : j = i0
     ·omega
     ·simp only [e1, e2, if_true, if_false] at h3
      have := hi n j (by omega) (by omega) h3
      omega
    ·by_cases e2 : j = i0
     ·simp only [e1, e2, if_true, if_false] at h3
      have := hi i n (by omega) (by omega) h3
      omega
     ·simp only [e1, e2, if_false] at h3
      exact hi i j (by omega) (by omega) h3)
   by_cases hyn : y = n
   ·exact ⟨i0, by omega, by omega⟩
   ·obtain ⟨i, h1, h2⟩ := ih y (by omega)
    by_cases e : i = i0
    ·simp only [e, if_true] at h2
     exact ⟨n, by omega, h2⟩
    ·simp only [e, if_false] at h2
     exact ⟨i, by omega, h2⟩
  ·have ih := pigeon n f (fun i h => by
    have h1 := hf i (by omega)
    have h2 : f i ≠ n := fun h3 => hl ⟨i, h, h3⟩
    omega) (fun i j h1 h2 h3 => hi i j (by omega) (by omega) h3)
   by_cases hfn : f n = n
   ·by_cases hyn : y = n
    ·exact ⟨n, by omega, by omega⟩
    ·obtain ⟨i, h1, h2⟩ := ih y (by omega)
     exact ⟨i, by omega, h2⟩
   ·obtain ⟨i, h1, h2⟩ := ih (f n) (by have := hf n (by omega); omega)
    have := hi i n (by omega) (by omega) h2
    omega
structure Gen (n g : Nat) : Prop where
 gt : 1 < n
 per : g ^ (n - 1) % n = 1
 all : ∀ a, 0 < a → a < n → ∃ i, g ^ i % n = a
theorem gen_of {n g : Nat} (hn : 1 < n) (l : List Nat) (hl : ∀ x ∈ l, IsP x) (hN : prod l = n - 1) (hg : g ^ (n - 1) % n = 1) (ho : ∀ x ∈ l, g ^ ((n - 1) / x) % n ≠ 1) : Gen n g := by
 have hord : ∀ k, 0 < k → k < n - 1 → g ^ k % n ≠ 1 := by
  intro k h0 hk he
  have h1 := pow_gcd hn k (n - 1) he hg
  have h2 : Nat.gcd k (n - 1) ∣ n - 1 := Nat.gcd_dvd_right _ _
  have h3 : Nat.gcd k (n - 1) ≤ k := Nat.le_of_dvd h0 (Nat.gcd_dvd_left _ _)
  obtain ⟨x, hx, y, hy⟩ := divides_part l hl hN h2 (by omega)
  refine ho x hx ?_
  rw [hy, Nat.pow_mul]
  exact one_pow_mod hn h1 y
 have hinj : ∀ i j, i < j → j < n - 1 → g ^ i % n ≠ g ^ j % n := by
  intro i j hij hj he
  refine hord (j - i) (by omega) (by omega) ?_
  have e1 : g ^ i * g ^ (n - 1 - i) % n = 1 := by rw [← Nat.pow_add, show i + (n - 1 - i) = n - 1 by omega, hg]
  have e2 : g ^ j * g ^ (n - 1 - i) % n = g ^ (j - i) % n := by
   rw [← Nat.pow_add, show j + (n - 1 - i) = (n - 1) + (j - i) by omega, Nat.pow_add, mul_one_mod hg]
  rw [← e2, Nat.mul_mod, ← he, ← Nat.mul_mod, e1]
 have hpos : ∀ i, i < n - 1 → 0 < g ^ i % n := by
  intro i hi
  apply Nat.pos_of_ne_zero
  intro h0
  have e1 : g ^ i * g ^ (n - 1 - i) % n = 1 := by rw [← Nat.pow_add, show i + (n - 1 - i) = n - 1 by omega, hg]
  rw [Nat.mul_mod, h0, Nat.zero_mul, Nat.zero_mod] at e1
  cases e1
 refine ⟨hn, hg, fun a h0 ha => ?_⟩
 obtain ⟨i, h1, h2⟩ := pigeon (n - 1) (fun i => g ^ i % n - 1) (fun i hi => by
  have := hpos i hi
  have := Nat.mod_lt (g ^ i) (show 0 < n by omega)
  show g ^ i % n - 1 < n - 1
  omega) (fun i j hi hj he => by
  have h1 := hpos i hi
  have h2 := hpos j hj
  have he2 : g ^ i % n - 1 = g ^ j % n - 1 := he
  have he' : g ^ i % n = g ^ j % n := by omega
  by_cases e : i = j
  ·exact e
  ·exfalso
   by_cases hlt : i < j
   ·exact hinj i j hlt hj he'
   ·exact hinj j i (by omega) hi he'.symm) (a - 1) (by omega)
 refine ⟨i, ?_⟩
 have := hpos i h1
 have h3 : g ^ i % n - 1 = a - 1 := h2
 omega
theorem Gen.isP {n g : Nat} (h : Gen n g) : IsP n := by
 obtain ⟨hn, hg, ha⟩ := h
 refine ⟨hn, fun d hd => ?_⟩
 by_cases e : d = n
 ·exact .inr e
 ·left
  have hle := Nat.le_of_dvd (by omega) hd
  have h0 : 0 < d := Nat.pos_of_ne_zero fun h => by
   subst h
   have := Nat.eq_zero_of_zero_dvd hd
   omega
  obtain ⟨i, hi⟩ := ha d h0 (by omega)
  have e1 : g ^ i * g ^ ((n - 1) * (i + 1) - i) % n = 1 := by
   have h2 : i ≤ (n - 1) * (i + 1) := by
    have : 1 * (i + 1) ≤ (n - 1) * (i + 1) := Nat.mul_le_mul_right _ (by omega)
    omega
   rw [← Nat.pow_add, show i + ((n - 1) * (i + 1) - i) = (n - 1) * (i + 1) by omega, Nat.pow_mul]
   exact one_pow_mod hn hg _
  have e2 : d ∣ g ^ i * g ^ ((n - 1) * (i + 1) - i) := by
   refine Nat.dvd_trans ?_ (Nat.dvd_mul_right _ _)
   rw [← Nat.div_add_mod (g ^ i) n, hi]
   exact (Nat.dvd_add_right (Nat.dvd_trans hd (Nat.dvd_mul_right _ _))).2 (Nat.dvd_refl d)
  have e3 : d ∣ 1 := by
   rw [← e1]
   exact (Nat.dvd_mod_iff hd).2 e2
  exact Nat.dvd_one.1 e3
theorem gen_by {n g : Nat} (f : Nat) (l : List Nat) (hn : 1 < n) (hl : ∀ x ∈ l, IsP x) (hN : prod l = n - 1) (hf : n - 1 < 2 ^ f) (hg : pmf n f g (n - 1) = 1) (ho : (l.all fun x => !Nat.beq (pmf n f g ((n - 1) / x)) 1) = true) : Gen n g := by
 refine gen_of hn l hl hN (by rw [← pmf_eq n f g _ hf]; exact hg) fun x hx he => ?_
 have h := List.all_eq_true.1 ho x hx
 rw [pmf_eq n f g _ (Nat.lt_of_le_of_lt (Nat.div_le_self _ _) hf), he] at h
 cases h
theorem isP2 : IsP 2 := ⟨by decide, fun d h => by
 have := Nat.le_of_dvd (by decide) h
 have : d ≠ 0 := fun e => by subst e; have := Nat.eq_zero_of_zero_dvd h; omega
 omega⟩
theorem all_nil {Q : Nat → Prop} : ∀ x ∈ ([] : List Nat), Q x := fun _ h => by cases h
theorem all_cons {Q : Nat → Prop} {a : Nat} {l : List Nat} (h : Q a) (hl : ∀ x ∈ l, Q x) : ∀ x ∈ a :: l, Q x := fun x hx => by
 rcases List.mem_cons.1 hx with e | e
 ·rw [e]; exact h
 ·exact hl x e
theorem isP_0 : IsP 3 := Gen.isP (g := 2) (gen_by 2 [2] (by decide) (all_cons isP2 all_nil) (by decide +kernel) (by decide +kernel) (by decide +kernel) (by decide +kernel))
theorem isP_1 : IsP 17 := Gen.isP (g := 3) (gen_by 5 [2, 2, 2, 2] (by decide) (all_cons isP2 (all_cons isP2 (all_cons isP2 (all_cons isP2 all_nil)))) (by decide +kernel) (by decide +kernel) (by decide +kernel) (by decide +kernel))
theorem isP_2 : IsP 7 := Gen.isP (g := 3) (gen_by 3 [2, 3] (by decide) (all_cons isP2 (all_cons isP_0 all_nil)) (by decide +kernel) (by decide +kernel) (by decide +kernel) (by decide +kernel))
theorem isP_3 : IsP 239 := Gen.isP (g := 7) (gen_by 8 [2, 7, 17] (by decide) (all_cons isP2 (all_cons isP_2 (all_cons isP_1 all_nil))) (by decide +kernel) (by decide +kernel) (by decide +kernel) (by decide +kernel))
theorem isP_4 : IsP 479 := Gen.isP (g := 13) (gen_by 9 [2, 239] (by decide) (all_cons isP2 (all_cons isP_3 all_nil)) (by decide +kernel) (by decide +kernel) (by decide +kernel) (by decide +kernel))
theorem isP_5 : IsP 32573 := Gen.isP (g := 2) (gen_by 15 [2, 2, 17, 479] (by decide) (all_cons isP2 (all_cons isP2 (all_cons isP_1 (all_cons isP_4 all_nil)))) (by decide +kernel) (by decide +kernel) (by decide +kernel) (by decide +kernel))
theorem isP_6 : IsP 65147 := Gen.isP (g := 2) (gen_by 16 [2, 32573] (by decide) (all_cons isP2 (all_cons isP_5 all_nil)) (by decide +kernel) (by decide +kernel) (by decide +kernel) (by decide +kernel))
theorem isP_7 : IsP 5 := Gen.isP (g := 2) (gen_by 3 [2, 2] (by decide) (all_cons isP2 (all_cons isP2 all_nil)) (by decide +kernel) (by decide +kernel) (by decide +kernel) (by decide +kernel))
theorem isP_8 : IsP 11 := Gen.isP (g := 2) (gen_by 4 [2, 5] (by decide) (all_cons isP2 (all_cons isP_7 all_nil)) (by decide +kernel) (by decide +kernel) (by decide +kernel) (by decide +kernel))
theorem isP_9 : IsP 353 := Gen.isP (g := 3) (gen_by 9 [2, 2, 2, 2, 2, 11] (by decide) (all_cons isP2 (all_cons isP2 (all_cons isP2 (all_cons isP2 (all_cons isP2 (all_cons isP_8 all_nil)))))) (by decide +kernel) (by decide +kernel) (by decide +kernel) (by decide +kernel))
theorem isP_10 : IsP 29 := Gen.isP (g := 2) (gen_by 5 [2, 2, 7] (by decide) (all_cons isP2 (all_cons isP2 (all_cons isP_2 all_nil))) (by decide +kernel) (by decide +kernel) (by decide +kernel) (by decide +kernel))
theorem isP_11 : IsP 59 := Gen.isP (g := 2) (gen_by 6 [2, 29] (by decide) (all_cons isP2 (all_cons isP_10 all_nil)) (by decide +kernel) (by decide +kernel) (by decide +kernel) (by decide +kernel))
theorem isP_12 : IsP 487 := Gen.isP (g := 3) (gen_by 9 [2, 3, 3, 3, 3, 3] (by decide) (all_cons isP2 (all_cons isP_0 (all_cons isP_0 (all_cons isP_0 (all_cons isP_0 (all_cons isP_0 all_nil)))))) (by decide +kernel) (by decide +kernel) (by decide +kernel) (by decide +kernel))
theorem isP_13 : IsP 57467 := Gen.isP (g := 2) (gen_by 16 [2, 59, 487] (by decide) (all_cons isP2 (all_cons isP_11 (all_cons isP_12 all_nil))) (by decide +kernel) (by decide +kernel) (by decide +kernel) (by decide +kernel))
theorem isP_14 : IsP 13 := Gen.isP (g := 2) (gen_by 4 [2, 2, 3] (by decide) (all_cons isP2 (all_cons isP2 (all_cons isP_0 all_nil))) (by decide +kernel) (by decide +kernel) (by decide +kernel) (by decide +kernel))
theorem isP_15 : IsP 131 := Gen.isP (g := 2) (gen_by 8 [2, 5, 13] (by decide) (all_cons isP2 (all_cons isP_7 (all_cons isP_14 all_nil))) (by decide +kernel) (by decide +kernel) (by decide +kernel) (by decide +kernel))
theorem isP_16 : IsP 132049 := Gen.isP (g := 26) (gen_by 18 [2, 2, 2, 2, 3, 3, 7, 131] (by decide) (all_cons isP2 (all_cons isP2 (all_cons isP2 (all_cons isP2 (all_cons isP_0 (all_cons isP_0 (all_cons isP_2 (all_cons isP_15 all_nil)))))))) (by decide +kernel) (by decide +kernel) (by decide +kernel) (by decide +kernel))
theorem isP_17 : IsP 43 := Gen.isP (g := 3) (gen_by 6 [2, 3, 7] (by decide) (all_cons isP2 (all_cons isP_0 (all_cons isP_2 all_nil))) (by decide +kernel) (by decide +kernel) (by decide +kernel) (by decide +kernel))
theorem isP_18 : IsP 23 := Gen.isP (g := 5) (gen_by 5 [2, 11] (by decide) (all_cons isP2 (all_cons isP_8 all_nil)) (by decide +kernel) (by decide +kernel) (by decide +kernel) (by decide +kernel))
theorem isP_19 : IsP 3727 := Gen.isP (g := 3) (gen_by 12 [2, 3, 3, 3, 3, 23] (by decide) (all_cons isP2 (all_cons isP_0 (all_cons isP_0 (all_cons isP_0 (all_cons isP_0 (all_cons isP_18 all_nil)))))) (by decide +kernel) (by decide +kernel) (by decide +kernel) (by decide +kernel))
theorem isP_20 : IsP 1923133 := Gen.isP (g := 2) (gen_by 21 [2, 2, 3, 43, 3727] (by decide) (all_cons isP2 (all_cons isP2 (all_cons isP_0 (all_cons isP_17 (all_cons isP_19 all_nil))))) (by decide +kernel) (by decide +kernel) (by decide +kernel) (by decide +kernel))
theorem isP_21 : IsP 31 := Gen.isP (g := 3) (gen_by 5 [2, 3, 5] (by decide) (all_cons isP2 (all_cons isP_0 (all_cons isP_7 all_nil))) (by decide +kernel) (by decide +kernel) (by decide +kernel) (by decide +kernel))
theorem isP_22 : IsP 53 := Gen.isP (g := 2) (gen_by 6 [2, 2, 13] (by decide) (all_cons isP2 (all_cons isP2 (all_cons isP_14 all_nil))) (by decide +kernel) (by decide +kernel) (by decide +kernel) (by decide +kernel))
theorem isP_23 : IsP 107 := Gen.isP (g := 2) (gen_by 7 [2, 53] (by decide) (all_cons isP2 (all_cons isP_22 all_nil)) (by decide +kernel) (by decide +kernel) (by decide +kernel) (by decide +kernel))
theorem isP_24 : IsP 37 := Gen.isP (g := 2) (gen_by 6 [2, 2, 3, 3] (by decide) (all_cons isP2 (all_cons isP2 (all_cons isP_0 (all_cons isP_0 all_nil)))) (by decide +kernel) (by decide +kernel) (by decide +kernel) (by decide +kernel))
theorem isP_25 : IsP 223 := Gen.isP (g := 3) (gen_by 8 [2, 3, 37] (by decide) (all_cons isP2 (all_cons isP_0 (all_cons isP_24 all_nil))) (by decide +kernel) (by decide +kernel) (by decide +kernel) (by decide +kernel))
theorem isP_26 : IsP 173 := Gen.isP (g := 2) (gen_by 8 [2, 2, 43] (by decide) (all_cons isP2 (all_cons isP2 (all_cons isP_17 all_nil))) (by decide +kernel) (by decide +kernel) (by decide +kernel) (by decide +kernel))
theorem isP_27 : IsP 4153 := Gen.isP (g := 5) (gen_by 13 [2, 2, 2, 3, 173] (by decide) (all_cons isP2 (all_cons isP2 (all_cons isP2 (all_cons isP_0 (all_cons isP_26 all_nil))))) (by decide +kernel) (by decide +kernel) (by decide +kernel) (by decide +kernel))
theorem isP_28 : IsP 41 := Gen.isP (g := 6) (gen_by 6 [2, 2, 2, 5] (by decide) (all_cons isP2 (all_cons isP2 (all_cons isP2 (all_cons isP_7 all_nil)))) (by decide +kernel) (by decide +kernel) (by decide +kernel) (by decide +kernel))
theorem isP_29 : IsP 1723 := Gen.isP (g := 3) (gen_by 11 [2, 3, 7, 41] (by decide) (all_cons isP2 (all_cons isP_0 (all_cons isP_2 (all_cons isP_28 all_nil)))) (by decide +kernel) (by decide +kernel) (by decide +kernel) (by decide +kernel))
theorem isP_30 : IsP 430751 := Gen.isP (g := 17) (gen_by 19 [2, 5, 5, 5, 1723] (by decide) (all_cons isP2 (all_cons isP_7 (all_cons isP_7 (all_cons isP_7 (all_cons isP_29 all_nil))))) (by decide +kernel) (by decide +kernel) (by decide +kernel) (by decide +kernel))
theorem isP_31 : IsP 31757755568855353 := Gen.isP (g := 10) (gen_by 55 [2, 2, 2, 3, 31, 107, 223, 4153, 430751] (by decide) (all_cons isP2 (all_cons isP2 (all_cons isP2 (all_cons isP_0 (all_cons isP_21 (all_cons isP_23 (all_cons isP_25 (all_cons isP_27 (all_cons isP_30 all_nil))))))))) (by decide +kernel) (by decide +kernel) (by decide +kernel) (by decide +kernel))
theorem isP_32 : IsP 19 := Gen.isP (g := 2) (gen_by 5 [2, 3, 3] (by decide) (all_cons isP2 (all_cons isP_0 (all_cons isP_0 all_nil))) (by decide +kernel) (by decide +kernel) (by decide +kernel) (by decide +kernel))
theorem isP_33 : IsP 83 := Gen.isP (g := 2) (gen_by 7 [2, 41] (by decide) (all_cons isP2 (all_cons isP_28 all_nil)) (by decide +kernel) (by decide +kernel) (by decide +kernel) (by decide +kernel))
theorem isP_34 : IsP 9463 := Gen.isP (g := 3) (gen_by 14 [2, 3, 19, 83] (by decide) (all_cons isP2 (all_cons isP_0 (all_cons isP_32 (all_cons isP_33 all_nil)))) (by decide +kernel) (by decide +kernel) (by decide +kernel) (by decide +kernel))
theorem isP_35 : IsP 37853 := Gen.isP (g := 2) (gen_by 16 [2, 2, 9463] (by decide) (all_cons isP2 (all_cons isP2 (all_cons isP_34 all_nil))) (by decide +kernel) (by decide +kernel) (by decide +kernel) (by decide +kernel))
theorem isP_36 : IsP 75707 := Gen.isP (g := 2) (gen_by 17 [2, 37853] (by decide) (all_cons isP2 (all_cons isP_35 all_nil)) (by decide +kernel) (by decide +kernel) (by decide +kernel) (by decide +kernel))
theorem isP_37 : IsP 47 := Gen.isP (g := 5) (gen_by 6 [2, 23] (by decide) (all_cons isP2 (all_cons isP_18 all_nil)) (by decide +kernel) (by decide +kernel) (by decide +kernel) (by decide +kernel))
theorem isP_38 : IsP 127 := Gen.isP (g := 3) (gen_by 7 [2, 3, 3, 7] (by decide) (all_cons isP2 (all_cons isP_0 (all_cons isP_0 (all_cons isP_2 all_nil)))) (by decide +kernel) (by decide +kernel) (by decide +kernel) (by decide +kernel))
theorem isP_39 : IsP 103 := Gen.isP (g := 5) (gen_by 7 [2, 3, 17] (by decide) (all_cons isP2 (all_cons isP_0 (all_cons isP_1 all_nil))) (by decide +kernel) (by decide +kernel) (by decide +kernel) (by decide +kernel))
theorem isP_40 : IsP 991 := Gen.isP (g := 6) (gen_by 10 [2, 3, 3, 5, 11] (by decide) (all_cons isP2 (all_cons isP_0 (all_cons isP_0 (all_cons isP_7 (all_cons isP_8 all_nil))))) (by decide +kernel) (by decide +kernel) (by decide +kernel) (by decide +kernel))
theorem isP_41 : IsP 8574133 := Gen.isP (g := 2) (gen_by 24 [2, 2, 3, 7, 103, 991] (by decide) (all_cons isP2 (all_cons isP2 (all_cons isP_0 (all_cons isP_2 (all_cons isP_39 (all_cons isP_40 all_nil)))))) (by decide +kernel) (by decide +kernel) (by decide +kernel) (by decide +kernel))
theorem isP_42 : IsP 1919519569386763 := Gen.isP (g := 2) (gen_by 51 [2, 3, 7, 19, 47, 47, 127, 8574133] (by decide) (all_cons isP2 (all_cons isP_0 (all_cons isP_2 (all_cons isP_32 (all_cons isP_37 (all_cons isP_37 (all_cons isP_38 (all_cons isP_41 all_nil)))))))) (by decide +kernel) (by decide +kernel) (by decide +kernel) (by decide +kernel))
theorem isP_43 : IsP 2437 := Gen.isP (g := 2) (gen_by 12 [2, 2, 3, 7, 29] (by decide) (all_cons isP2 (all_cons isP2 (all_cons isP_0 (all_cons isP_2 (all_cons isP_10 all_nil))))) (by decide +kernel) (by decide +kernel) (by decide +kernel) (by decide +kernel))
theorem isP_44 : IsP 97 := Gen.isP (g := 5) (gen_by 7 [2, 2, 2, 2, 2, 3] (by decide) (all_cons isP2 (all_cons isP2 (all_cons isP2 (all_cons isP2 (all_cons isP2 (all_cons isP_0 all_nil)))))) (by decide +kernel) (by decide +kernel) (by decide +kernel) (by decide +kernel))
theorem isP_45 : IsP 419 := Gen.isP (g := 2) (gen_by 9 [2, 11, 19] (by decide) (all_cons isP2 (all_cons isP_8 (all_cons isP_32 all_nil))) (by decide +kernel) (by decide +kernel) (by decide +kernel) (by decide +kernel))
theorem isP_46 : IsP 569003 := Gen.isP (g := 2) (gen_by 20 [2, 7, 97, 419] (by decide) (all_cons isP2 (all_cons isP_2 (all_cons isP_44 (all_cons isP_45 all_nil)))) (by decide +kernel) (by decide +kernel) (by decide +kernel) (by decide +kernel))
theorem isP_47 : IsP 2773320623 := Gen.isP (g := 5) (gen_by 32 [2, 2437, 569003] (by decide) (all_cons isP2 (all_cons isP_43 (all_cons isP_46 all_nil))) (by decide +kernel) (by decide +kernel) (by decide +kernel) (by decide +kernel))
theorem isP_48 : IsP 72106336199 := Gen.isP (g := 7) (gen_by 37 [2, 13, 2773320623] (by decide) (all_cons isP2 (all_cons isP_14 (all_cons isP_47 all_nil))) (by decide +kernel) (by decide +kernel) (by decide +kernel) (by decide +kernel))
theorem isP_49 : IsP 75445702479781427272750846543864801 := Gen.isP (g := 7) (gen_by 116 [2, 2, 2, 2, 2, 3, 3, 5, 5, 75707, 1919519569386763, 72106336199] (by decide) (all_cons isP2 (all_cons isP2 (all_cons isP2 (all_cons isP2 (all_cons isP2 (all_cons isP_0 (all_cons isP_0 (all_cons isP_7 (all_cons isP_7 (all_cons isP_36 (all_cons isP_42 (all_cons isP_48 all_nil)))))))))))) (by decide +kernel) (by decide +kernel) (by decide +kernel) (by decide +kernel))
theorem isP_50 : IsP 74058212732561358302231226437062788676166966415465897661863160754340907 := Gen.isP (g := 2) (gen_by 236 [2, 3, 353, 57467, 132049, 1923133, 31757755568855353, 75445702479781427272750846543864801] (by decide) (all_cons isP2 (all_cons isP_0 (all_cons isP_9 (all_cons isP_13 (all_cons isP_16 (all_cons isP_20 (all_cons isP_31 (all_cons isP_49 all_nil)))))))) (by decide +kernel) (by decide +kernel) (by decide +kernel) (by decide +kernel))
theorem genP : Gen 57896044618658097711785492504343953926634992332820282019728792003956564819949 2 := gen_by 255 [2, 2, 3, 65147, 74058212732561358302231226437062788676166966415465897661863160754340907] (by decide) (all_cons isP2 (all_cons isP2 (all_cons isP_0 (all_cons isP_6 (all_cons isP_50 all_nil))))) (by decide +kernel) (by decide +kernel) (by decide +kernel) (by decide +kernel)
theorem isQ_0 : IsP 3 := Gen.isP (g := 2) (gen_by 2 [2] (by decide) (all_cons isP2 all_nil) (by decide +kernel) (by decide +kernel) (by decide +kernel) (by decide +kernel))
theorem isQ_1 : IsP 5 := Gen.isP (g := 2) (gen_by 3 [2, 2] (by decide) (all_cons isP2 (all_cons isP2 all_nil)) (by decide +kernel) (by decide +kernel) (by decide +kernel) (by decide +kernel))
theorem isQ_2 : IsP 11 := Gen.isP (g := 2) (gen_by 4 [2, 5] (by decide) (all_cons isP2 (all_cons isQ_1 all_nil)) (by decide +kernel) (by decide +kernel) (by decide +kernel) (by decide +kernel))
theorem isQ_3 : IsP 23 := Gen.isP (g := 5) (gen_by 5 [2, 11] (by decide) (all_cons isP2 (all_cons isQ_2 all_nil)) (by decide +kernel) (by decide +kernel) (by decide +kernel) (by decide +kernel))
theorem isQ_4 : IsP 47 := Gen.isP (g := 5) (gen_by 6 [2, 23] (by decide) (all_cons isP2 (all_cons isQ_3 all_nil)) (by decide +kernel) (by decide +kernel) (by decide +kernel) (by decide +kernel))
theorem isQ_5 : IsP 34123 := Gen.isP (g := 2) (gen_by 16 [2, 3, 11, 11, 47] (by decide) (all_cons isP2 (all_cons isQ_0 (all_cons isQ_2 (all_cons isQ_2 (all_cons isQ_4 all_nil))))) (by decide +kernel) (by decide +kernel) (by decide +kernel) (by decide +kernel))
theorem isQ_6 : IsP 409477 := Gen.isP (g := 2) (gen_by 19 [2, 2, 3, 34123] (by decide) (all_cons isP2 (all_cons isP2 (all_cons isQ_0 (all_cons isQ_5 all_nil)))) (by decide +kernel) (by decide +kernel) (by decide +kernel) (by decide +kernel))
theorem isQ_7 : IsP 14741173 := Gen.isP (g := 2) (gen_by 24 [2, 2, 3, 3, 409477] (by decide) (all_cons isP2 (all_cons isP2 (all_cons isQ_0 (all_cons isQ_0 (all_cons isQ_6 all_nil))))) (by decide +kernel) (by decide +kernel) (by decide +kernel) (by decide +kernel))
theorem isQ_8 : IsP 58964693 := Gen.isP (g := 2) (gen_by 26 [2, 2, 14741173] (by decide) (all_cons isP2 (all_cons isP2 (all_cons isQ_7 all_nil))) (by decide +kernel) (by decide +kernel) (by decide +kernel) (by decide +kernel))
theorem isQ_9 : IsP 7 := Gen.isP (g := 3) (gen_by 3 [2, 3] (by decide) (all_cons isP2 (all_cons isQ_0 all_nil)) (by decide +kernel) (by decide +kernel) (by decide +kernel) (by decide +kernel))
theorem isQ_10 : IsP 17 := Gen.isP (g := 3) (gen_by 5 [2, 2, 2, 2] (by decide) (all_cons isP2 (all_cons isP2 (all_cons isP2 (all_cons isP2 all_nil)))) (by decide +kernel) (by decide +kernel) (by decide +kernel) (by decide +kernel))
theorem isQ_11 : IsP 43 := Gen.isP (g := 3) (gen_by 6 [2, 3, 7] (by decide) (all_cons isP2 (all_cons isQ_0 (all_cons isQ_9 all_nil))) (by decide +kernel) (by decide +kernel) (by decide +kernel) (by decide +kernel))
theorem isQ_12 : IsP 30703 := Gen.isP (g := 3) (gen_by 15 [2, 3, 7, 17, 43] (by decide) (all_cons isP2 (all_cons isQ_0 (all_cons isQ_9 (all_cons isQ_10 (all_cons isQ_11 all_nil))))) (by decide +kernel) (by decide +kernel) (by decide +kernel) (by decide +kernel))
theorem isQ_13 : IsP 13 := Gen.isP (g := 2) (gen_by 4 [2, 2, 3] (by decide) (all_cons isP2 (all_cons isP2 (all_cons isQ_0 all_nil))) (by decide +kernel) (by decide +kernel) (by decide +kernel) (by decide +kernel))
theorem isQ_14 : IsP 79 := Gen.isP (g := 3) (gen_by 7 [2, 3, 13] (by decide) (all_cons isP2 (all_cons isQ_0 (all_cons isQ_13 all_nil))) (by decide +kernel) (by decide +kernel) (by decide +kernel) (by decide +kernel))
theorem isQ_15 : IsP 41081 := Gen.isP (g := 3) (gen_by 16 [2, 2, 2, 5, 13, 79] (by decide) (all_cons isP2 (all_cons isP2 (all_cons isP2 (all_cons isQ_1 (all_cons isQ_13 (all_cons isQ_14 all_nil)))))) (by decide +kernel) (by decide +kernel) (by decide +kernel) (by decide +kernel))
theorem isQ_16 : IsP 82163 := Gen.isP (g := 2) (gen_by 17 [2, 41081] (by decide) (all_cons isP2 (all_cons isQ_15 all_nil)) (by decide +kernel) (by decide +kernel) (by decide +kernel) (by decide +kernel))
theorem isQ_17 : IsP 41 := Gen.isP (g := 6) (gen_by 6 [2, 2, 2, 5] (by decide) (all_cons isP2 (all_cons isP2 (all_cons isP2 (all_cons isQ_1 all_nil)))) (by decide +kernel) (by decide +kernel) (by decide +kernel) (by decide +kernel))
theorem isQ_18 : IsP 1723 := Gen.isP (g := 3) (gen_by 11 [2, 3, 7, 41] (by decide) (all_cons isP2 (all_cons isQ_0 (all_cons isQ_9 (all_cons isQ_17 all_nil)))) (by decide +kernel) (by decide +kernel) (by decide +kernel) (by decide +kernel))
theorem isQ_19 : IsP 17231 := Gen.isP (g := 13) (gen_by 15 [2, 5, 1723] (by decide) (all_cons isP2 (all_cons isQ_1 (all_cons isQ_18 all_nil))) (by decide +kernel) (by decide +kernel) (by decide +kernel) (by decide +kernel))
theorem isQ_20 : IsP 137849 := Gen.isP (g := 3) (gen_by 18 [2, 2, 2, 17231] (by decide) (all_cons isP2 (all_cons isP2 (all_cons isP2 (all_cons isQ_19 all_nil)))) (by decide +kernel) (by decide +kernel) (by decide +kernel) (by decide +kernel))
theorem isQ_21 : IsP 67 := Gen.isP (g := 2) (gen_by 7 [2, 3, 11] (by decide) (all_cons isP2 (all_cons isQ_0 (all_cons isQ_2 all_nil))) (by decide +kernel) (by decide +kernel) (by decide +kernel) (by decide +kernel))
theorem isQ_22 : IsP 22111 := Gen.isP (g := 6) (gen_by 15 [2, 3, 5, 11, 67] (by decide) (all_cons isP2 (all_cons isQ_0 (all_cons isQ_1 (all_cons isQ_2 (all_cons isQ_21 all_nil))))) (by decide +kernel) (by decide +kernel) (by decide +kernel) (by decide +kernel))
theorem isQ_23 : IsP 132667 := Gen.isP (g := 5) (gen_by 18 [2, 3, 22111] (by decide) (all_cons isP2 (all_cons isQ_0 (all_cons isQ_22 all_nil))) (by decide +kernel) (by decide +kernel) (by decide +kernel) (by decide +kernel))
theorem isQ_24 : IsP 3044861653679985063343 := Gen.isP (g := 5) (gen_by 72 [2, 3, 11, 30703, 82163, 137849, 132667] (by decide) (all_cons isP2 (all_cons isQ_0 (all_cons isQ_2 (all_cons isQ_12 (all_cons isQ_16 (all_cons isQ_20 (all_cons isQ_23 all_nil))))))) (by decide +kernel) (by decide +kernel) (by decide +kernel) (by decide +kernel))
theorem isQ_25 : IsP 198211423230930754013084525763697 := Gen.isP (g := 5) (gen_by 108 [2, 2, 2, 2, 3, 23, 58964693, 3044861653679985063343] (by decide) (all_cons isP2 (all_cons isP2 (all_cons isP2 (all_cons isP2 (all_cons isQ_0 (all_cons isQ_3 (all_cons isQ_8 (all_cons isQ_24 all_nil)))))))) (by decide +kernel) (by decide +kernel) (by decide +kernel) (by decide +kernel))
theorem isQ_26 : IsP 269 := Gen.isP (g := 2) (gen_by 9 [2, 2, 67] (by decide) (all_cons isP2 (all_cons isP2 (all_cons isQ_21 all_nil))) (by decide +kernel) (by decide +kernel) (by decide +kernel) (by decide +kernel))
theorem isQ_27 : IsP 73 := Gen.isP (g := 5) (gen_by 7 [2, 2, 2, 3, 3] (by decide) (all_cons isP2 (all_cons isP2 (all_cons isP2 (all_cons isQ_0 (all_cons isQ_0 all_nil))))) (by decide +kernel) (by decide +kernel) (by decide +kernel) (by decide +kernel))
theorem isQ_28 : IsP 307 := Gen.isP (g := 5) (gen_by 9 [2, 3, 3, 17] (by decide) (all_cons isP2 (all_cons isQ_0 (all_cons isQ_0 (all_cons isQ_10 all_nil)))) (by decide +kernel) (by decide +kernel) (by decide +kernel) (by decide +kernel))
theorem isQ_29 : IsP 113 := Gen.isP (g := 3) (gen_by 7 [2, 2, 2, 2, 7] (by decide) (all_cons isP2 (all_cons isP2 (all_cons isP2 (all_cons isP2 (all_cons isQ_9 all_nil))))) (by decide +kernel) (by decide +kernel) (by decide +kernel) (by decide +kernel))
theorem isQ_30 : IsP 2939 := Gen.isP (g := 2) (gen_by 12 [2, 13, 113] (by decide) (all_cons isP2 (all_cons isQ_13 (all_cons isQ_29 all_nil))) (by decide +kernel) (by decide +kernel) (by decide +kernel) (by decide +kernel))
theorem isQ_31 : IsP 5879 := Gen.isP (g := 11) (gen_by 13 [2, 2939] (by decide) (all_cons isP2 (all_cons isQ_30 all_nil)) (by decide +kernel) (by decide +kernel) (by decide +kernel) (by decide +kernel))
theorem isQ_32 : IsP 292386187 := Gen.isP (g := 2) (gen_by 29 [2, 3, 3, 3, 3, 307, 5879] (by decide) (all_cons isP2 (all_cons isQ_0 (all_cons isQ_0 (all_cons isQ_0 (all_cons isQ_0 (all_cons isQ_28 (all_cons isQ_31 all_nil))))))) (by decide +kernel) (by decide +kernel) (by decide +kernel) (by decide +kernel))
theorem isQ_33 : IsP 213441916511 := Gen.isP (g := 13) (gen_by 38 [2, 5, 73, 292386187] (by decide) (all_cons isP2 (all_cons isQ_1 (all_cons isQ_27 (all_cons isQ_32 all_nil)))) (by decide +kernel) (by decide +kernel) (by decide +kernel) (by decide +kernel))
theorem isQ_34 : IsP 1361 := Gen.isP (g := 3) (gen_by 11 [2, 2, 2, 2, 5, 17] (by decide) (all_cons isP2 (all_cons isP2 (all_cons isP2 (all_cons isP2 (all_cons isQ_1 (all_cons isQ_10 all_nil)))))) (by decide +kernel) (by decide +kernel) (by decide +kernel) (by decide +kernel))
theorem isQ_35 : IsP 19 := Gen.isP (g := 2) (gen_by 5 [2, 3, 3] (by decide) (all_cons isP2 (all_cons isQ_0 (all_cons isQ_0 all_nil))) (by decide +kernel) (by decide +kernel) (by decide +kernel) (by decide +kernel))
theorem isQ_36 : IsP 2851 := Gen.isP (g := 2) (gen_by 12 [2, 3, 5, 5, 19] (by decide) (all_cons isP2 (all_cons isQ_0 (all_cons isQ_1 (all_cons isQ_1 (all_cons isQ_35 all_nil))))) (by decide +kernel) (by decide +kernel) (by decide +kernel) (by decide +kernel))
theorem isQ_37 : IsP 2551 := Gen.isP (g := 6) (gen_by 12 [2, 3, 5, 5, 17] (by decide) (all_cons isP2 (all_cons isQ_0 (all_cons isQ_1 (all_cons isQ_1 (all_cons isQ_10 all_nil))))) (by decide +kernel) (by decide +kernel) (by decide +kernel) (by decide +kernel))
theorem isQ_38 : IsP 1224481 := Gen.isP (g := 13) (gen_by 21 [2, 2, 2, 2, 2, 3, 5, 2551] (by decide) (all_cons isP2 (all_cons isP2 (all_cons isP2 (all_cons isP2 (all_cons isP2 (all_cons isQ_0 (all_cons isQ_1 (all_cons isQ_37 all_nil)))))))) (by decide +kernel) (by decide +kernel) (by decide +kernel) (by decide +kernel))
theorem isQ_39 : IsP 3797 := Gen.isP (g := 2) (gen_by 12 [2, 2, 13, 73] (by decide) (all_cons isP2 (all_cons isP2 (all_cons isQ_13 (all_cons isQ_27 all_nil)))) (by decide +kernel) (by decide +kernel) (by decide +kernel) (by decide +kernel))
theorem isQ_40 : IsP 531581 := Gen.isP (g := 2) (gen_by 20 [2, 2, 5, 7, 3797] (by decide) (all_cons isP2 (all_cons isP2 (all_cons isQ_1 (all_cons isQ_9 (all_cons isQ_39 all_nil))))) (by decide +kernel) (by decide +kernel) (by decide +kernel) (by decide +kernel))
theorem isQ_41 : IsP 1257559732178653 := Gen.isP (g := 2) (gen_by 51 [2, 2, 3, 7, 23, 1224481, 531581] (by decide) (all_cons isP2 (all_cons isP2 (all_cons isQ_0 (all_cons isQ_9 (all_cons isQ_3 (all_cons isQ_38 (all_cons isQ_40 all_nil))))))) (by decide +kernel) (by decide +kernel) (by decide +kernel) (by decide +kernel))
theorem isQ_42 : IsP 4434155615661930479 := Gen.isP (g := 17) (gen_by 62 [2, 41, 43, 1257559732178653] (by decide) (all_cons isP2 (all_cons isQ_17 (all_cons isQ_11 (all_cons isQ_41 all_nil)))) (by decide +kernel) (by decide +kernel) (by decide +kernel) (by decide +kernel))
theorem isQ_43 : IsP 172054593956031949258510691 := Gen.isP (g := 2) (gen_by 88 [2, 5, 1361, 2851, 4434155615661930479] (by decide) (all_cons isP2 (all_cons isQ_1 (all_cons isQ_34 (all_cons isQ_36 (all_cons isQ_42 all_nil))))) (by decide +kernel) (by decide +kernel) (by decide +kernel) (by decide +kernel))
theorem isQ_44 : IsP 19757330305831588566944191468367130476339 := Gen.isP (g := 2) (gen_by 134 [2, 269, 213441916511, 172054593956031949258510691] (by decide) (all_cons isP2 (all_cons isQ_26 (all_cons isQ_33 (all_cons isQ_43 all_nil)))) (by decide +kernel) (by decide +kernel) (by decide +kernel) (by decide +kernel))
theorem isQ_45 : IsP 276602624281642239937218680557139826668747 := Gen.isP (g := 2) (gen_by 138 [2, 7, 19757330305831588566944191468367130476339] (by decide) (all_cons isP2 (all_cons isQ_9 (all_cons isQ_44 all_nil))) (by decide +kernel) (by decide +kernel) (by decide +kernel) (by decide +kernel))
theorem isL : IsP 7237005577332262213973186563042994240857116359379907606001950938285454250989 := Gen.isP (g := 2) (gen_by 253 [2, 2, 3, 11, 198211423230930754013084525763697, 276602624281642239937218680557139826668747] (by decide) (all_cons isP2 (all_cons isP2 (all_cons isQ_0 (all_cons isQ_2 (all_cons isQ_25 (all_cons isQ_45 all_nil)))))) (by decide +kernel) (by decide +kernel) (by decide +kernel) (by decide +kernel))
open Go.RowKit
theorem maskN (a : Nat) (ha : a < 18446744073709551616) : bits .and .u64 (a : Int) 4294967295 = ((a % 4294967296 : Nat) : Int) := by
 have h := bits_and_u64_nat a 4294967295 ha (by omega)
 have e : a &&& 4294967295 = a % 4294967296 := Nat.and_two_pow_sub_one_eq_mod a 32
 rw [e] at h
 exact h
theorem divN (a : Nat) : (a : Int) / 4294967296 = ((a / 4294967296 : Nat) : Int) := by omega
theorem mulN (a b : Nat) : (a : Int) * (b : Int) = ((a * b : Nat) : Int) := (Int.natCast_mul a b).symm
theorem addN (a b : Nat) : (a : Int) + (b : Int) = ((a + b : Nat) : Int) := (Int.natCast_add a b).symm
theorem wrapN (a : Nat) (ha : a < 18446744073709551616) : IntKind.u64.wrap (a : Int) = (a : Int) := by rw [IntKind.wrap_u64]; omega
theorem wrapM (a : Nat) : IntKind.u64.wrap (a : Int) = ((a % 18446744073709551616 : Nat) : Int) := by rw [IntKind.wrap_u64]; omega
theorem mul64_nat (x y : Nat) (hx : x < 18446744073709551616) (hy : y < 18446744073709551616) (w : World) :
  Calls Tryz.prog 158 #[.int .u64 x, .int .u64 y] w fun e w' => e = .returned (.tuple #[.int .u64 ((x * y / 18446744073709551616 : Nat) : Int), .int .u64 ((x * y % 18446744073709551616 : Nat) : Int)]) ∧ w' = w := by
 obtain ⟨bd, bt, bw, hhi⟩ := Lib.mul64_hi x y hx hy
 have ba := Lib.half_mul_le (a := x / 4294967296) (b := y / 4294967296) (by omega) (by omega)
 have bb := Lib.half_mul_le (a := x / 4294967296) (b := y % 4294967296) (by omega) (by omega)
 have bc := Lib.half_mul_le (a := x % 4294967296) (b := y / 4294967296) (by omega) (by omega)
 have ba' : x / 4294967296 * (y / 4294967296) < 18446744073709551616 := by omega
 have bb' : x / 4294967296 * (y % 4294967296) < 18446744073709551616 := by omega
 have bc' : x % 4294967296 * (y / 4294967296) < 18446744073709551616 := by omega
 have bh1 : x / 4294967296 * (y / 4294967296) + (x / 4294967296 * (y % 4294967296) + x % 4294967296 * (y % 4294967296) / 4294967296) / 4294967296 < 18446744073709551616 := by omega
 have bh : x / 4294967296 * (y / 4294967296) + (x / 4294967296 * (y % 4294967296) + x % 4294967296 * (y % 4294967296) / 4294967296) / 4294967296 + ((x / 4294967296 * (y % 4294967296) + x % 4294967296 * (y % 4294967296) / 4294967296) % 4294967296 + x % 4294967296 * (y / 4294967296)) / 4294967296 < 18446744073709551616 := by omega
 go_enter Tryz.func158, Tryz.ntmps158
 go_wp2
 simp only [maskN x hx, maskN y hy, divN, mulN, addN, wrapN _ bd, wrapN _ bb', wrapN _ bt, maskN _ bt, wrapN _ bc', wrapN _ bw, wrapN _ ba', wrapN _ bh1, wrapN _ bh, wrapM (x * y)]
 rw [hhi]
 go_ret2
 exact ⟨rfl, rfl⟩
theorem add64_run (x y c : Int) (hx : 0 ≤ x) (hy : 0 ≤ y) (hc0 : 0 ≤ c) (hc : c ≤ 1) (w : World) :
  (callFunc 159 #[.int .u64 x, .int .u64 y, .int .u64 c]).run Tryz.prog w =
   .ok (.value (.tuple #[.int .u64 ((x + y + c) % 18446744073709551616), .int .u64 ((x + y + c) / 18446744073709551616)])) w := by
 rw [run_callFunc_extern Tryz.func159 (by kernel_rfl) (by kernel_rfl) (by kernel_rfl) (e := add64Entry) (by kernel_rfl), run_add64 x y c hx hy hc0 hc]
 simp only [Result.andThen]
abbrev wd (N : Int) : Value := .agg #[.int .u64 (N / 18446744073709551616), .int .u64 (N % 18446744073709551616)]
theorem product_any (x y : Int) (w : World) (hx : W64 x) (hy : W64 y) : Cs 122 #[.int .u64 x, .int .u64 y] w (wd (x * y)) := by
 obtain ⟨X, rfl⟩ := Int.eq_ofNat_of_zero_le hx.1
 obtain ⟨Y, rfl⟩ := Int.eq_ofNat_of_zero_le hy.1
 have hX : X < 18446744073709551616 := by have := hx.2; omega
 have hY : Y < 18446744073709551616 := by have := hy.2; omega
 clear hx hy
 go_enter Tryz.func122, Tryz.ntmps122
 go_wp2_with fail
 refine (mul64_nat X Y hX hY _).mono ?_
 rintro _ w1 ⟨rfl, rfl⟩
 go_wp2
 exact bodyPost_ret (v := wd ((X : Int) * (Y : Int))) (by simp [results, Tryz.results122, go_sem]) rfl ⟨rfl, (Below.refl _ _).alloc (Nat.le_refl _) _⟩
theorem plusH {N M : Int} (h0 : 0 ≤ N) (h1 : 0 ≤ M) (hlt : N + M < 340282366920938463463374607431768211456) : (N / 18446744073709551616 + M / 18446744073709551616 + (N % 18446744073709551616 + M % 18446744073709551616) / 18446744073709551616) % 18446744073709551616 = (N + M) / 18446744073709551616 := by omega
theorem plusL {N M : Int} : (N % 18446744073709551616 + M % 18446744073709551616) % 18446744073709551616 = (N + M) % 18446744073709551616 := by omega
theorem plus_hl (h l h' l' : Int) (w : World) (a0 : 0 ≤ h) (b0 : 0 ≤ l) (b1 : l < 18446744073709551616) (c0 : 0 ≤ h') (d0 : 0 ≤ l') (d1 : l' < 18446744073709551616) : Cs 123 #[.agg #[.int .u64 h, .int .u64 l], .agg #[.int .u64 h', .int .u64 l']] w (.agg #[.int .u64 ((h + h' + (l + l') / 18446744073709551616) % 18446744073709551616), .int .u64 ((l + l') % 18446744073709551616)]) := by
 have r1 := add64_run l l' 0 b0 d0 (by decide) (by decide)
 have r2 := add64_run h h' ((l + l' + 0) / 18446744073709551616) a0 c0 (by omega) (by omega)
 rw [Int.add_zero] at r1 r2
 go_enter Tryz.func123, Tryz.ntmps123
 go_wp2
 exact bodyPost_ret (v := .agg #[.int .u64 ((h + h' + (l + l') / 18446744073709551616) % 18446744073709551616), .int .u64 ((l + l') % 18446744073709551616)]) (by simp [results, Tryz.results123, go_sem]) rfl ⟨rfl, (((Below.refl _ _).alloc (Nat.le_refl _) _).alloc (by simp) _).alloc (by simp; omega) _⟩
theorem plus_any (N M : Int) (w : World) (h0 : 0 ≤ N) (h1 : 0 ≤ M) (hlt : N + M < 340282366920938463463374607431768211456) : Cs 123 #[wd N, wd M] w (wd (N + M)) := by
 have := plus_hl (N / 18446744073709551616) (N % 18446744073709551616) (M / 18446744073709551616) (M % 18446744073709551616) w (by omega) (by omega) (by omega) (by omega) (by omega) (by omega)
 rw [plusH h0 h1 hlt, plusL] at this
 exact this
theorem belowR (N : Int) : bits BinOp.and IntKind.u64 (N % 18446744073709551616) 2251799813685247 = N % 2251799813685248 := by
 rw [and51 ⟨by omega, by omega⟩]
 omega
theorem below_any (N : Int) (w : World) : Cs 124 #[wd N] w (.int .u64 (N % 2251799813685248)) := by
 have e := belowR N
 go_enter Tryz.func124, Tryz.ntmps124
 go_wp2
 go_ret
 exact ⟨rfl, (Below.refl _ _).alloc (Nat.le_refl _) _⟩
theorem aboveR {N : Int} (h0 : 0 ≤ N) (h1 : N < 41538374868278621028243970633760768) : bits BinOp.or IntKind.u64 (IntKind.u64.wrap (N / 18446744073709551616 * 8192)) (N % 18446744073709551616 / 2251799813685248) = N / 2251799813685248 := by
 rw [wrap64u ⟨by omega, by omega⟩, or_join 13 8192 (by decide) ⟨by omega, by omega⟩ ⟨by omega, by omega⟩ (by omega) (by omega)]
 omega
theorem above_any (N : Int) (w : World) (h0 : 0 ≤ N) (h1 : N < 41538374868278621028243970633760768) : Cs 125 #[wd N] w (.int .u64 (N / 2251799813685248)) := by
 have e := aboveR h0 h1
 clear h0 h1
 go_enter Tryz.func125, Tryz.ntmps125
 go_wp2
 go_ret
 exact ⟨rfl, (Below.refl _ _).alloc (Nat.le_refl _) _⟩
open Go.RowKit
theorem carR {a b : Int} (ha : W64 a) (hb : W64 b) : IntKind.u64.wrap (bits BinOp.and IntKind.u64 b 2251799813685247 + a / 2251799813685248) = b % 2251799813685248 + a / 2251799813685248 := by
 rw [and51 hb]
 unfold W64 at *
 exact wrap64u ⟨by omega, by omega⟩
theorem carR0 {a b : Int} (ha : W64 a) (hb : W64 b) : IntKind.u64.wrap (bits BinOp.and IntKind.u64 b 2251799813685247 + IntKind.u64.wrap (a / 2251799813685248 * 19)) = b % 2251799813685248 + a / 2251799813685248 * 19 := by
 rw [and51 hb]
 unfold W64 at *
 rw [wrap64u (x := a / 2251799813685248 * 19) ⟨by omega, by omega⟩]
 exact wrap64u ⟨by omega, by omega⟩
theorem carried_any (a b c d e : Int) (w : World) (ha : W64 a) (hb : W64 b) (hc : W64 c) (hd : W64 d) (he : W64 e) :
  Calls Tryz.prog 105 #[.int .u64 a, .int .u64 b, .int .u64 c, .int .u64 d, .int .u64 e] w fun r w' => r = .returned (car a b c d e).v ∧ Below w.heap.size w w' := by
 go_enter Tryz.func105, Tryz.ntmps105
 go_wp2
 rw [carR0 he ha, carR ha hb, carR hb hc, carR hc hd, carR hd he]
 exact bodyPost_ret (v := (car a b c d e).v) (by simp [results, Tryz.results105, go_sem, car]) rfl ⟨rfl, (Below.refl _ _).alloc (Nat.le_refl _) _⟩
theorem bcell {W w1 : World} (hb : Below W.heap.size W w1) : (∀ b o, b < W.heap.size → w1.cell? ⟨b, o, none⟩ = W.cell? ⟨b, o, none⟩) ∧ (∀ b o, b < W.heap.size → w1.frozen? ⟨b, o, none⟩ = W.frozen? ⟨b, o, none⟩) :=
 ⟨fun b o h => hb.cell (p := ⟨b, o, none⟩) h, fun b o h => hb.frozen (p := ⟨b, o, none⟩) h⟩
theorem below3 {w w1 : World} {A B C : Obj} (hb : Below (((w.alloc A).alloc B).alloc C).heap.size (((w.alloc A).alloc B).alloc C) w1) : Below w.heap.size w w1 :=
 ((((Below.refl _ _).alloc (Nat.le_refl _) _).alloc (by simp) _).alloc (by simp; omega) _).trans (hb.mono (by simp; omega))
theorem below2 {w w1 : World} {A B : Obj} (hb : Below ((w.alloc A).alloc B).heap.size ((w.alloc A).alloc B) w1) : Below w.heap.size w w1 :=
 (((Below.refl _ _).alloc (Nat.le_refl _) _).alloc (by simp) _).trans (hb.mono (by simp; omega))
theorem below1 {w w1 : World} {A : Obj} (hb : Below (w.alloc A).heap.size (w.alloc A) w1) : Below w.heap.size w w1 :=
 ((Below.refl _ _).alloc (Nat.le_refl _) _).trans (hb.mono (by simp))
theorem set5 {B g : Nat} {w w1 : World} (h : Below B w w1) (hg : B ≤ g) {u0 u1 u2 u3 u4 : Value} :
  Below B w (((((w1.setCell ⟨g, 0, none⟩ u0).setCell ⟨g, 1, none⟩ u1).setCell ⟨g, 2, none⟩ u2).setCell ⟨g, 3, none⟩ u3).setCell ⟨g, 4, none⟩ u4) :=
 ((((h.setCell (p := ⟨g, 0, none⟩) hg u0).setCell (p := ⟨g, 1, none⟩) hg u1).setCell (p := ⟨g, 2, none⟩) hg u2).setCell (p := ⟨g, 3, none⟩) hg u3).setCell (p := ⟨g, 4, none⟩) hg u4
theorem set2 {B g : Nat} {w w1 : World} (h : Below B w w1) (hg : B ≤ g) {u0 u1 : Value} :
  Below B w ((w1.setCell ⟨g, 0, none⟩ u0).setCell ⟨g, 1, none⟩ u1) :=
 (h.setCell (p := ⟨g, 0, none⟩) hg u0).setCell (p := ⟨g, 1, none⟩) hg u1
theorem add_any (x y : E5) (w : World) (hx : x.Ok) (hy : y.Ok) :
  Calls Tryz.prog 120 #[x.v, y.v] w fun r w' => r = .returned (addF x y).v ∧ Below w.heap.size w w' := by
 obtain ⟨a0, a1, b0, b1, c0, c1, d0, d1, e0, e1⟩ := hx
 obtain ⟨f0, f1, g0, g1, h0, h1, i0, i1, j0, j1⟩ := hy
 go_enter Tryz.func120, Tryz.ntmps120
 go_wp2_with fail
 refine (carried_any _ _ _ _ _ _ ⟨by omega, by omega⟩ ⟨by omega, by omega⟩ ⟨by omega, by omega⟩ ⟨by omega, by omega⟩ ⟨by omega, by omega⟩).mono ?_
 rintro _ w1 ⟨rfl, hb⟩
 obtain ⟨z, hz⟩ : ∃ z, addF x y = z := ⟨_, rfl⟩
 have hz' := hz
 unfold addF at hz'
 rw [hz']
 have H := hide hz
 have H3 := hide (below3 hb)
 obtain ⟨hc, hf⟩ := bcell hb
 have hs : w.heap.size + 1 + 1 < w1.heap.size := by have := hb.size; simp at this; omega
 clear hz hz' hb a0 a1 b0 b1 c0 c1 d0 d1 e0 e1 f0 f1 g0 g1 h0 h1 i0 i1 j0 j1
 go_wp2
 refine bodyPost_ret (v := z.v) (by simp [results, Tryz.results120, go_sem, hc]) rfl ⟨by rw [H.out], ?_⟩
 exact set5 H3.out (by omega)
theorem sub_any (x y : E5) (w : World) (hx : x.Ok) (hy : y.Ok) :
  Calls Tryz.prog 121 #[x.v, y.v] w fun r w' => r = .returned (subF x y).v ∧ Below w.heap.size w w' := by
 obtain ⟨a0, a1, b0, b1, c0, c1, d0, d1, e0, e1⟩ := hx
 obtain ⟨f0, f1, g0, g1, h0, h1, i0, i1, j0, j1⟩ := hy
 go_enter Tryz.func121, Tryz.ntmps121
 go_wp2_with fail
 refine (carried_any _ _ _ _ _ _ ⟨by omega, by omega⟩ ⟨by omega, by omega⟩ ⟨by omega, by omega⟩ ⟨by omega, by omega⟩ ⟨by omega, by omega⟩).mono ?_
 rintro _ w1 ⟨rfl, hb⟩
 obtain ⟨z, hz⟩ : ∃ z, subF x y = z := ⟨_, rfl⟩
 have hz' := hz
 unfold subF at hz'
 rw [hz']
 have H := hide hz
 have H3 := hide (below3 hb)
 obtain ⟨hc, hf⟩ := bcell hb
 have hs : w.heap.size + 1 + 1 < w1.heap.size := by have := hb.size; simp at this; omega
 clear hz hz' hb a0 a1 b0 b1 c0 c1 d0 d1 e0 e1 f0 f1 g0 g1 h0 h1 i0 i1 j0 j1
 go_wp2
 refine bodyPost_ret (v := z.v) (by simp [results, Tryz.results121, go_sem, hc]) rfl ⟨by rw [H.out], ?_⟩
 exact set5 H3.out (by omega)
theorem small_any (n : Int) (w : World) (h0 : 0 ≤ n) (h1 : n < 4294967296) :
  Calls Tryz.prog 75 #[.int .u32 n] w fun r w' => r = .returned (smallF n).v ∧ Below w.heap.size w w' := by
 go_enter Tryz.func75, Tryz.ntmps75
 go_wp2_with fail
 refine (carried_any _ _ _ _ _ _ ⟨by omega, by omega⟩ ⟨by decide, by decide⟩ ⟨by decide, by decide⟩ ⟨by decide, by decide⟩ ⟨by decide, by decide⟩).mono ?_
 rintro _ w1 ⟨rfl, hb⟩
 obtain ⟨z, hz⟩ : ∃ z, smallF n = z := ⟨_, rfl⟩
 have hz' := hz
 unfold smallF at hz'
 rw [hz']
 have H := hide hz
 have H3 := hide (below1 hb)
 obtain ⟨hc, hf⟩ := bcell hb
 have hs : w.heap.size < w1.heap.size := by have := hb.size; simp at this; omega
 clear hz hz' hb
 go_wp2
 refine bodyPost_ret (v := z.v) (by simp [results, Tryz.results75, go_sem, hc]) rfl ⟨by rw [H.out], ?_⟩
 exact set5 H3.out (by omega)
open Go.RowKit
section
variable {P : Program} {ops : Array Oper} {md : Region.Mode} {C : World → Prop}
def KW.next {W : World} (s : KW W) (w' : World) (h : Below s.w.heap.size s.w w') : KW W := ⟨w', s.keep.trans (h.mono s.keep.size)⟩
theorem KW.drew (W : World) : ∃ s : KW W, ({ W with drawn := W.drawn + 1 } : World) = s.w := ⟨⟨W.drew, (Below.refl _ _).drew⟩, rfl⟩
theorem keep_of {W : World} {s : KW W} {f : FuncId} {args : Array Value} {v : Value}
  (h : Calls P f args s.w fun e w' => e = .returned v ∧ Below s.w.heap.size s.w w') : Calls P f args s.w fun e w'' => e = .returned v ∧ ∃ t : KW W, w'' = t.w :=
 h.mono fun _ w' ⟨he, hb⟩ => ⟨he, s.next w' hb, rfl⟩
theorem wp_region_keep {id : Nat} {Q : Exit → Act → World → Prop} {a : Act} {w : World} {l : List Oper} (hm : P.follows .mixedOrders = true) (hB : Region.lexB .any l.toArray = true)
  (h : wpQuiet P l.toArray (fun w' => ∃ s : KW w, w' = s.w) (fun a' => ∀ s : KW w, Q .normal a' s.w) l a) : (Code.region id l.toArray true).wp P Q a w := by
 refine wp_region_quiet (C := fun w' => ∃ s : KW w, w' = s.w) hm hB (KW.drew w) ?_
 have e : (fun a' => ∀ w', (∃ s : KW w, w' = s.w) → Q .normal a' w') = fun a' => ∀ s : KW w, Q .normal a' s.w := by
  funext a'
  exact propext ⟨fun h s => h _ ⟨s, rfl⟩, fun h w' ⟨s, hs⟩ => hs ▸ h s⟩
 rw [e]
 exact h
theorem wp_region_keep_tail {id : Nat} {Q : Exit → Act → World → Prop} {a : Act} {w : World} {l : List Oper} (n : Nat) (hm : P.follows .mixedOrders = true) (hB : Region.lexTailB .any l.toArray n = true)
  (h : wpQuiet P l.toArray (fun w' => ∃ s : KW w, w' = s.w) (fun a' => ∀ s : KW w, wpList P l.toArray Q (l.drop n) a' s.w) (l.take n) a) : (Code.region id l.toArray true).wp P Q a w := by
 refine wp_region_quiet_tail (C := fun w' => ∃ s : KW w, w' = s.w) n hm hB (KW.drew w) ?_
 have e : (fun a' => ∀ w', (∃ s : KW w, w' = s.w) → wpList P l.toArray Q (l.drop n) a' w') = fun a' => ∀ s : KW w, wpList P l.toArray Q (l.drop n) a' s.w := by
  funext a'
  exact propext ⟨fun h s => h _ ⟨s, rfl⟩, fun h w' ⟨s, hs⟩ => hs ▸ h s⟩
 rw [e]
 exact h
end
open Go.RowKit
theorem E5.Ok.wa {x : E5} (h : x.Ok) : W64 x.a := ⟨h.a0, by have := h.a1; omega⟩
theorem E5.Ok.wb {x : E5} (h : x.Ok) : W64 x.b := ⟨h.b0, by have := h.b1; omega⟩
theorem E5.Ok.vb {x : E5} (h : x.Ok) : W64 (x.b * 19) := ⟨by have := h.b0; omega, by have := h.b1; omega⟩
theorem E5.Ok.wc {x : E5} (h : x.Ok) : W64 x.c := ⟨h.c0, by have := h.c1; omega⟩
theorem E5.Ok.vc {x : E5} (h : x.Ok) : W64 (x.c * 19) := ⟨by have := h.c0; omega, by have := h.c1; omega⟩
theorem E5.Ok.wd {x : E5} (h : x.Ok) : W64 x.d := ⟨h.d0, by have := h.d1; omega⟩
theorem E5.Ok.vd {x : E5} (h : x.Ok) : W64 (x.d * 19) := ⟨by have := h.d0; omega, by have := h.d1; omega⟩
theorem E5.Ok.we {x : E5} (h : x.Ok) : W64 x.e := ⟨h.e0, by have := h.e1; omega⟩
theorem E5.Ok.ve {x : E5} (h : x.Ok) : W64 (x.e * 19) := ⟨by have := h.e0; omega, by have := h.e1; omega⟩
structure MulW (w W : World) : Prop where
 old : Below w.heap.size w W
 size : w.heap.size + 1 + 1 < W.heap.size
 free : ∀ o, W.frozen? ⟨w.heap.size + 1 + 1, o, none⟩ = false
 c0 : W.cell? ⟨w.heap.size + 1 + 1, 0, none⟩ = some (.int .u64 0)
 c1 : W.cell? ⟨w.heap.size + 1 + 1, 1, none⟩ = some (.int .u64 0)
 c2 : W.cell? ⟨w.heap.size + 1 + 1, 2, none⟩ = some (.int .u64 0)
 c3 : W.cell? ⟨w.heap.size + 1 + 1, 3, none⟩ = some (.int .u64 0)
 c4 : W.cell? ⟨w.heap.size + 1 + 1, 4, none⟩ = some (.int .u64 0)
theorem MulW.keep {w W W' : World} (h : MulW w W) (hb : Below W.heap.size W W') : MulW w W' :=
 ⟨h.old.trans (hb.mono h.old.size), Nat.lt_of_lt_of_le h.size hb.size, fun o => (hb.frozen (p := ⟨_, o, none⟩) h.size).trans (h.free o), (hb.cell (p := ⟨_, 0, none⟩) h.size).trans h.c0, (hb.cell (p := ⟨_, 1, none⟩) h.size).trans h.c1, (hb.cell (p := ⟨_, 2, none⟩) h.size).trans h.c2, (hb.cell (p := ⟨_, 3, none⟩) h.size).trans h.c3, (hb.cell (p := ⟨_, 4, none⟩) h.size).trans h.c4⟩
theorem MulW.start {w W : World} {A B : Obj} {n : Nat}
  (hb : Below ((((w.alloc A).alloc B).alloc (.cells #[.int .u64 0, .int .u64 0, .int .u64 0, .int .u64 0, .int .u64 0] 116)).drewN n).heap.size ((((w.alloc A).alloc B).alloc (.cells #[.int .u64 0, .int .u64 0, .int .u64 0, .int .u64 0, .int .u64 0] 116)).drewN n) W) : MulW w W := by
 refine MulW.keep ?_ hb
 refine ⟨?_, by simp, by simp [go_sem], by simp [go_sem], by simp [go_sem], by simp [go_sem], by simp [go_sem], by simp [go_sem]⟩
 have := (((Below.refl w.heap.size w).alloc (Nat.le_refl _) A).alloc (by simp) B).alloc (by simp; omega) (.cells #[.int .u64 0, .int .u64 0, .int .u64 0, .int .u64 0, .int .u64 0] 116)
 exact ⟨this.os, this.tape, this.output, this.size, this.block⟩
structure At (W : World) (g : Nat) (N : Int) : Prop where
 size : g < W.heap.size
 c0 : W.cell? ⟨g, 0, none⟩ = some (.int .u64 (N / 18446744073709551616))
 c1 : W.cell? ⟨g, 1, none⟩ = some (.int .u64 (N % 18446744073709551616))
theorem At.keep {W W' : World} {g : Nat} {N : Int} (h : At W g N) (hb : Below W.heap.size W W') : At W' g N :=
 ⟨Nat.lt_of_lt_of_le h.size hb.size, (hb.cell (p := ⟨g, 0, none⟩) h.size).trans h.c0, (hb.cell (p := ⟨g, 1, none⟩) h.size).trans h.c1⟩
theorem At.new (W : World) (N : Int) : At (W.alloc (.cells #[.int .u64 (N / 18446744073709551616), .int .u64 (N % 18446744073709551616)] 169)) W.heap.size N :=
 ⟨by simp, by simp [go_sem], by simp [go_sem]⟩
theorem below_new (W : World) (o : Obj) : Below W.heap.size W (W.alloc o) := (Below.refl _ _).alloc (Nat.le_refl _) _
theorem mul_any (x y : E5) (w : World) (hx : x.Ok) (hy : y.Ok) :
  Calls Tryz.prog 93 #[x.v, y.v] w fun r w' => r = .returned (mulF x y).v ∧ Below w.heap.size w w' := by
 have HB := hide (MB.of hx hy)
 have HS := hide (MS.of hx hy)
 have q0 := hy.b0
 have q1 := hy.b1
 have q2 := hy.c0
 have q3 := hy.c1
 have q4 := hy.d0
 have q5 := hy.d1
 have q6 := hy.e0
 have q7 := hy.e1
 go_enter Tryz.func93, Tryz.ntmps93
 go_wp2_with fail
 go_quiet (fail)
 go_wp2_with fail
 go_quiet (fail)
 go_wp2_with fail
 clear q0 q1 q2 q3 q4 q5 q6 q7
 refine (product_any x.a y.a _ hx.wa hy.wa).mono ?_
 rintro _ wv ⟨rfl, hb⟩
 have M := MulW.start hb
 clear hb
 go_wp2_with fail
 refine (product_any x.b (y.e * 19) _ hx.wb hy.ve).mono ?_
 rintro _ wv ⟨rfl, hb⟩
 replace M := M.keep hb
 clear hb
 go_wp2_with fail
 refine (plus_any (x.a * y.a) (x.b * (y.e * 19)) _ (by have B := HB.out; have := B.aa; have := B.be'; have := B.cd'; have := B.dc'; have := B.eb'; omega) (by have B := HB.out; have := B.aa; have := B.be'; have := B.cd'; have := B.dc'; have := B.eb'; omega) (by have B := HB.out; have := B.aa; have := B.be'; have := B.cd'; have := B.dc'; have := B.eb'; omega)).mono ?_
 rintro _ wv ⟨rfl, hb⟩
 replace M := M.keep hb
 clear hb
 go_wp2_with fail
 refine (product_any x.c (y.d * 19) _ hx.wc hy.vd).mono ?_
 rintro _ wv ⟨rfl, hb⟩
 replace M := M.keep hb
 clear hb
 go_wp2_with fail
 refine (plus_any (x.a * y.a + x.b * (y.e * 19)) (x.c * (y.d * 19)) _ (by have B := HB.out; have := B.aa; have := B.be'; have := B.cd'; have := B.dc'; have := B.eb'; omega) (by have B := HB.out; have := B.aa; have := B.be'; have := B.cd'; have := B.dc'; have := B.eb'; omega) (by have B := HB.out; have := B.aa; have := B.be'; have := B.cd'; have := B.dc'; have := B.eb'; omega)).mono ?_
 rintro _ wv ⟨rfl, hb⟩
 replace M := M.keep hb
 clear hb
 go_wp2_with fail
 refine (product_any x.d (y.c * 19) _ hx.wd hy.vc).mono ?_
 rintro _ wv ⟨rfl, hb⟩
 replace M := M.keep hb
 clear hb
 go_wp2_with fail
 refine (plus_any (x.a * y.a + x.b * (y.e * 19) + x.c * (y.d * 19)) (x.d * (y.c * 19)) _ (by have B := HB.out; have := B.aa; have := B.be'; have := B.cd'; have := B.dc'; have := B.eb'; omega) (by have B := HB.out; have := B.aa; have := B.be'; have := B.cd'; have := B.dc'; have := B.eb'; omega) (by have B := HB.out; have := B.aa; have := B.be'; have := B.cd'; have := B.dc'; have := B.eb'; omega)).mono ?_
 rintro _ wv ⟨rfl, hb⟩
 replace M := M.keep hb
 clear hb
 go_wp2_with fail
 refine (product_any x.e (y.b * 19) _ hx.we hy.vb).mono ?_
 rintro _ wv ⟨rfl, hb⟩
 replace M := M.keep hb
 clear hb
 go_wp2_with fail
 refine (plus_any (x.a * y.a + x.b * (y.e * 19) + x.c * (y.d * 19) + x.d * (y.c * 19)) (x.e * (y.b * 19)) _ (by have B := HB.out; have := B.aa; have := B.be'; have := B.cd'; have := B.dc'; have := B.eb'; omega) (by have B := HB.out; have := B.aa; have := B.be'; have := B.cd'; have := B.dc'; have := B.eb'; omega) (by have B := HB.out; have := B.aa; have := B.be'; have := B.cd'; have := B.dc'; have := B.eb'; omega)).mono ?_
 rintro _ wv ⟨rfl, hb⟩
 replace M := M.keep hb
 clear hb
 rw [show x.a * y.a + x.b * (y.e * 19) + x.c * (y.d * 19) + x.d * (y.c * 19) + x.e * (y.b * 19) = m0 x y from rfl]
 go_wp2_with fail
 refine (product_any x.a y.b _ hx.wa hy.wb).mono ?_
 rintro _ wv ⟨rfl, hb⟩
 replace M := (M.keep (below_new _ _)).keep hb
 have A0 := (At.new _ _).keep hb
 clear hb
 go_wp2_with fail
 refine (product_any x.b y.a _ hx.wb hy.wa).mono ?_
 rintro _ wv ⟨rfl, hb⟩
 replace M := M.keep hb
 replace A0 := A0.keep hb
 clear hb
 go_wp2_with fail
 refine (plus_any (x.a * y.b) (x.b * y.a) _ (by have B := HB.out; have := B.ab; have := B.ba; have := B.ce'; have := B.dd'; have := B.ec'; omega) (by have B := HB.out; have := B.ab; have := B.ba; have := B.ce'; have := B.dd'; have := B.ec'; omega) (by have B := HB.out; have := B.ab; have := B.ba; have := B.ce'; have := B.dd'; have := B.ec'; omega)).mono ?_
 rintro _ wv ⟨rfl, hb⟩
 replace M := M.keep hb
 replace A0 := A0.keep hb
 clear hb
 go_wp2_with fail
 refine (product_any x.c (y.e * 19) _ hx.wc hy.ve).mono ?_
 rintro _ wv ⟨rfl, hb⟩
 replace M := M.keep hb
 replace A0 := A0.keep hb
 clear hb
 go_wp2_with fail
 refine (plus_any (x.a * y.b + x.b * y.a) (x.c * (y.e * 19)) _ (by have B := HB.out; have := B.ab; have := B.ba; have := B.ce'; have := B.dd'; have := B.ec'; omega) (by have B := HB.out; have := B.ab; have := B.ba; have := B.ce'; have := B.dd'; have := B.ec'; omega) (by have B := HB.out; have := B.ab; have := B.ba; have := B.ce'; have := B.dd'; have := B.ec'; omega)).mono ?_
 rintro _ wv ⟨rfl, hb⟩
 replace M := M.keep hb
 replace A0 := A0.keep hb
 clear hb
 go_wp2_with fail
 refine (product_any x.d (y.d * 19) _ hx.wd hy.vd).mono ?_
 rintro _ wv ⟨rfl, hb⟩
 replace M := M.keep hb
 replace A0 := A0.keep hb
 clear hb
 go_wp2_with fail
 refine (plus_any (x.a * y.b + x.b * y.a + x.c * (y.e * 19)) (x.d * (y.d * 19)) _ (by have B := HB.out; have := B.ab; have := B.ba; have := B.ce'; have := B.dd'; have := B.ec'; omega) (by have B := HB.out; have := B.ab; have := B.ba; have := B.ce'; have := B.dd'; have := B.ec'; omega) (by have B := HB.out; have := B.ab; have := B.ba; have := B.ce'; have := B.dd'; have := B.ec'; omega)).mono ?_
 rintro _ wv ⟨rfl, hb⟩
 replace M := M.keep hb
 replace A0 := A0.keep hb
 clear hb
 go_wp2_with fail
 refine (product_any x.e (y.c * 19) _ hx.we hy.vc).mono ?_
 rintro _ wv ⟨rfl, hb⟩
 replace M := M.keep hb
 replace A0 := A0.keep hb
 clear hb
 go_wp2_with fail
 refine (plus_any (x.a * y.b + x.b * y.a + x.c * (y.e * 19) + x.d * (y.d * 19)) (x.e * (y.c * 19)) _ (by have B := HB.out; have := B.ab; have := B.ba; have := B.ce'; have := B.dd'; have := B.ec'; omega) (by have B := HB.out; have := B.ab; have := B.ba; have := B.ce'; have := B.dd'; have := B.ec'; omega) (by have B := HB.out; have := B.ab; have := B.ba; have := B.ce'; have := B.dd'; have := B.ec'; omega)).mono ?_
 rintro _ wv ⟨rfl, hb⟩
 replace M := M.keep hb
 replace A0 := A0.keep hb
 clear hb
 rw [show x.a * y.b + x.b * y.a + x.c * (y.e * 19) + x.d * (y.d * 19) + x.e * (y.c * 19) = m1 x y from rfl]
 go_wp2_with fail
 refine (product_any x.a y.c _ hx.wa hy.wc).mono ?_
 rintro _ wv ⟨rfl, hb⟩
 replace M := (M.keep (below_new _ _)).keep hb
 replace A0 := (A0.keep (below_new _ _)).keep hb
 have A1 := (At.new _ _).keep hb
 clear hb
 go_wp2_with fail
 refine (product_any x.b y.b _ hx.wb hy.wb).mono ?_
 rintro _ wv ⟨rfl, hb⟩
 replace M := M.keep hb
 replace A0 := A0.keep hb
 replace A1 := A1.keep hb
 clear hb
 go_wp2_with fail
 refine (plus_any (x.a * y.c) (x.b * y.b) _ (by have B := HB.out; have := B.ac; have := B.bb; have := B.ca; have := B.de'; have := B.ed'; omega) (by have B := HB.out; have := B.ac; have := B.bb; have := B.ca; have := B.de'; have := B.ed'; omega) (by have B := HB.out; have := B.ac; have := B.bb; have := B.ca; have := B.de'; have := B.ed'; omega)).mono ?_
 rintro _ wv ⟨rfl, hb⟩
 replace M := M.keep hb
 replace A0 := A0.keep hb
 replace A1 := A1.keep hb
 clear hb
 go_wp2_with fail
 refine (product_any x.c y.a _ hx.wc hy.wa).mono ?_
 rintro _ wv ⟨rfl, hb⟩
 replace M := M.keep hb
 replace A0 := A0.keep hb
 replace A1 := A1.keep hb
 clear hb
 go_wp2_with fail
 refine (plus_any (x.a * y.c + x.b * y.b) (x.c * y.a) _ (by have B := HB.out; have := B.ac; have := B.bb; have := B.ca; have := B.de'; have := B.ed'; omega) (by have B := HB.out; have := B.ac; have := B.bb; have := B.ca; have := B.de'; have := B.ed'; omega) (by have B := HB.out; have := B.ac; have := B.bb; have := B.ca; have := B.de'; have := B.ed'; omega)).mono ?_
 rintro _ wv ⟨rfl, hb⟩
 replace M := M.keep hb
 replace A0 := A0.keep hb
 replace A1 := A1.keep hb
 clear hb
 go_wp2_with fail
 refine (product_any x.d (y.e * 19) _ hx.wd hy.ve).mono ?_
 rintro _ wv ⟨rfl, hb⟩
 replace M := M.keep hb
 replace A0 := A0.keep hb
 replace A1 := A1.keep hb
 clear hb
 go_wp2_with fail
 refine (plus_any (x.a * y.c + x.b * y.b + x.c * y.a) (x.d * (y.e * 19)) _ (by have B := HB.out; have := B.ac; have := B.bb; have := B.ca; have := B.de'; have := B.ed'; omega) (by have B := HB.out; have := B.ac; have := B.bb; have := B.ca; have := B.de'; have := B.ed'; omega) (by have B := HB.out; have := B.ac; have := B.bb; have := B.ca; have := B.de'; have := B.ed'; omega)).mono ?_
 rintro _ wv ⟨rfl, hb⟩
 replace M := M.keep hb
 replace A0 := A0.keep hb
 replace A1 := A1.keep hb
 clear hb
 go_wp2_with fail
 refine (product_any x.e (y.d * 19) _ hx.we hy.vd).mono ?_
 rintro _ wv ⟨rfl, hb⟩
 replace M := M.keep hb
 replace A0 := A0.keep hb
 replace A1 := A1.keep hb
 clear hb
 go_wp2_with fail
 refine (plus_any (x.a * y.c + x.b * y.b + x.c * y.a + x.d * (y.e * 19)) (x.e * (y.d * 19)) _ (by have B := HB.out; have := B.ac; have := B.bb; have := B.ca; have := B.de'; have := B.ed'; omega) (by have B := HB.out; have := B.ac; have := B.bb; have := B.ca; have := B.de'; have := B.ed'; omega) (by have B := HB.out; have := B.ac; have := B.bb; have := B.ca; have := B.de'; have := B.ed'; omega)).mono ?_
 rintro _ wv ⟨rfl, hb⟩
 replace M := M.keep hb
 replace A0 := A0.keep hb
 replace A1 := A1.keep hb
 clear hb
 rw [show x.a * y.c + x.b * y.b + x.c * y.a + x.d * (y.e * 19) + x.e * (y.d * 19) = m2 x y from rfl]
 go_wp2_with fail
 refine (product_any x.a y.d _ hx.wa hy.wd).mono ?_
 rintro _ wv ⟨rfl, hb⟩
 replace M := (M.keep (below_new _ _)).keep hb
 replace A0 := (A0.keep (below_new _ _)).keep hb
 replace A1 := (A1.keep (below_new _ _)).keep hb
 have A2 := (At.new _ _).keep hb
 clear hb
 go_wp2_with fail
 refine (product_any x.b y.c _ hx.wb hy.wc).mono ?_
 rintro _ wv ⟨rfl, hb⟩
 replace M := M.keep hb
 replace A0 := A0.keep hb
 replace A1 := A1.keep hb
 replace A2 := A2.keep hb
 clear hb
 go_wp2_with fail
 refine (plus_any (x.a * y.d) (x.b * y.c) _ (by have B := HB.out; have := B.ad; have := B.bc; have := B.cb; have := B.da; have := B.ee'; omega) (by have B := HB.out; have := B.ad; have := B.bc; have := B.cb; have := B.da; have := B.ee'; omega) (by have B := HB.out; have := B.ad; have := B.bc; have := B.cb; have := B.da; have := B.ee'; omega)).mono ?_
 rintro _ wv ⟨rfl, hb⟩
 replace M := M.keep hb
 replace A0 := A0.keep hb
 replace A1 := A1.keep hb
 replace A2 := A2.keep hb
 clear hb
 go_wp2_with fail
 refine (product_any x.c y.b _ hx.wc hy.wb).mono ?_
 rintro _ wv ⟨rfl, hb⟩
 replace M := M.keep hb
 replace A0 := A0.keep hb
 replace A1 := A1.keep hb
 replace A2 := A2.keep hb
 clear hb
 go_wp2_with fail
 refine (plus_any (x.a * y.d + x.b * y.c) (x.c * y.b) _ (by have B := HB.out; have := B.ad; have := B.bc; have := B.cb; have := B.da; have := B.ee'; omega) (by have B := HB.out; have := B.ad; have := B.bc; have := B.cb; have := B.da; have := B.ee'; omega) (by have B := HB.out; have := B.ad; have := B.bc; have := B.cb; have := B.da; have := B.ee'; omega)).mono ?_
 rintro _ wv ⟨rfl, hb⟩
 replace M := M.keep hb
 replace A0 := A0.keep hb
 replace A1 := A1.keep hb
 replace A2 := A2.keep hb
 clear hb
 go_wp2_with fail
 refine (product_any x.d y.a _ hx.wd hy.wa).mono ?_
 rintro _ wv ⟨rfl, hb⟩
 replace M := M.keep hb
 replace A0 := A0.keep hb
 replace A1 := A1.keep hb
 replace A2 := A2.keep hb
 clear hb
 go_wp2_with fail
 refine (plus_any (x.a * y.d + x.b * y.c + x.c * y.b) (x.d * y.a) _ (by have B := HB.out; have := B.ad; have := B.bc; have := B.cb; have := B.da; have := B.ee'; omega) (by have B := HB.out; have := B.ad; have := B.bc; have := B.cb; have := B.da; have := B.ee'; omega) (by have B := HB.out; have := B.ad; have := B.bc; have := B.cb; have := B.da; have := B.ee'; omega)).mono ?_
 rintro _ wv ⟨rfl, hb⟩
 replace M := M.keep hb
 replace A0 := A0.keep hb
 replace A1 := A1.keep hb
 replace A2 := A2.keep hb
 clear hb
 go_wp2_with fail
 refine (product_any x.e (y.e * 19) _ hx.we hy.ve).mono ?_
 rintro _ wv ⟨rfl, hb⟩
 replace M := M.keep hb
 replace A0 := A0.keep hb
 replace A1 := A1.keep hb
 replace A2 := A2.keep hb
 clear hb
 go_wp2_with fail
 refine (plus_any (x.a * y.d + x.b * y.c + x.c * y.b + x.d * y.a) (x.e * (y.e * 19)) _ (by have B := HB.out; have := B.ad; have := B.bc; have := B.cb; have := B.da; have := B.ee'; omega) (by have B := HB.out; have := B.ad; have := B.bc; have := B.cb; have := B.da; have := B.ee'; omega) (by have B := HB.out; have := B.ad; have := B.bc; have := B.cb; have := B.da; have := B.ee'; omega)).mono ?_
 rintro _ wv ⟨rfl, hb⟩
 replace M := M.keep hb
 replace A0 := A0.keep hb
 replace A1 := A1.keep hb
 replace A2 := A2.keep hb
 clear hb
 rw [show x.a * y.d + x.b * y.c + x.c * y.b + x.d * y.a + x.e * (y.e * 19) = m3 x y from rfl]
 go_wp2_with fail
 refine (product_any x.a y.e _ hx.wa hy.we).mono ?_
 rintro _ wv ⟨rfl, hb⟩
 replace M := (M.keep (below_new _ _)).keep hb
 replace A0 := (A0.keep (below_new _ _)).keep hb
 replace A1 := (A1.keep (below_new _ _)).keep hb
 replace A2 := (A2.keep (below_new _ _)).keep hb
 have A3 := (At.new _ _).keep hb
 clear hb
 go_wp2_with fail
 refine (product_any x.b y.d _ hx.wb hy.wd).mono ?_
 rintro _ wv ⟨rfl, hb⟩
 replace M := M.keep hb
 replace A0 := A0.keep hb
 replace A1 := A1.keep hb
 replace A2 := A2.keep hb
 replace A3 := A3.keep hb
 clear hb
 go_wp2_with fail
 refine (plus_any (x.a * y.e) (x.b * y.d) _ (by have B := HB.out; have := B.ae; have := B.bd; have := B.cc; have := B.db; have := B.ea; omega) (by have B := HB.out; have := B.ae; have := B.bd; have := B.cc; have := B.db; have := B.ea; omega) (by have B := HB.out; have := B.ae; have := B.bd; have := B.cc; have := B.db; have := B.ea; omega)).mono ?_
 rintro _ wv ⟨rfl, hb⟩
 replace M := M.keep hb
 replace A0 := A0.keep hb
 replace A1 := A1.keep hb
 replace A2 := A2.keep hb
 replace A3 := A3.keep hb
 clear hb
 go_wp2_with fail
 refine (product_any x.c y.c _ hx.wc hy.wc).mono ?_
 rintro _ wv ⟨rfl, hb⟩
 replace M := M.keep hb
 replace A0 := A0.keep hb
 replace A1 := A1.keep hb
 replace A2 := A2.keep hb
 replace A3 := A3.keep hb
 clear hb
 go_wp2_with fail
 refine (plus_any (x.a * y.e + x.b * y.d) (x.c * y.c) _ (by have B := HB.out; have := B.ae; have := B.bd; have := B.cc; have := B.db; have := B.ea; omega) (by have B := HB.out; have := B.ae; have := B.bd; have := B.cc; have := B.db; have := B.ea; omega) (by have B := HB.out; have := B.ae; have := B.bd; have := B.cc; have := B.db; have := B.ea; omega)).mono ?_
 rintro _ wv ⟨rfl, hb⟩
 replace M := M.keep hb
 replace A0 := A0.keep hb
 replace A1 := A1.keep hb
 replace A2 := A2.keep hb
 replace A3 := A3.keep hb
 clear hb
 go_wp2_with fail
 refine (product_any x.d y.b _ hx.wd hy.wb).mono ?_
 rintro _ wv ⟨rfl, hb⟩
 replace M := M.keep hb
 replace A0 := A0.keep hb
 replace A1 := A1.keep hb
 replace A2 := A2.keep hb
 replace A3 := A3.keep hb
 clear hb
 go_wp2_with fail
 refine (plus_any (x.a * y.e + x.b * y.d + x.c * y.c) (x.d * y.b) _ (by have B := HB.out; have := B.ae; have := B.bd; have := B.cc; have := B.db; have := B.ea; omega) (by have B := HB.out; have := B.ae; have := B.bd; have := B.cc; have := B.db; have := B.ea; omega) (by have B := HB.out; have := B.ae; have := B.bd; have := B.cc; have := B.db; have := B.ea; omega)).mono ?_
 rintro _ wv ⟨rfl, hb⟩
 replace M := M.keep hb
 replace A0 := A0.keep hb
 replace A1 := A1.keep hb
 replace A2 := A2.keep hb
 replace A3 := A3.keep hb
 clear hb
 go_wp2_with fail
 refine (product_any x.e y.a _ hx.we hy.wa).mono ?_
 rintro _ wv ⟨rfl, hb⟩
 replace M := M.keep hb
 replace A0 := A0.keep hb
 replace A1 := A1.keep hb
 replace A2 := A2.keep hb
 replace A3 := A3.keep hb
 clear hb
 go_wp2_with fail
 refine (plus_any (x.a * y.e + x.b * y.d + x.c * y.c + x.d * y.b) (x.e * y.a) _ (by have B := HB.out; have := B.ae; have := B.bd; have := B.cc; have := B.db; have := B.ea; omega) (by have B := HB.out; have := B.ae; have := B.bd; have := B.cc; have := B.db; have := B.ea; omega) (by have B := HB.out; have := B.ae; have := B.bd; have := B.cc; have := B.db; have := B.ea; omega)).mono ?_
 rintro _ wv ⟨rfl, hb⟩
 replace M := M.keep hb
 replace A0 := A0.keep hb
 replace A1 := A1.keep hb
 replace A2 := A2.keep hb
 replace A3 := A3.keep hb
 clear hb
 rw [show x.a * y.e + x.b * y.d + x.c * y.c + x.d * y.b + x.e * y.a = m4 x y from rfl]
 go_wp2_with fail
 have bn := below_new wv (.cells #[.int .u64 (m4 x y / 18446744073709551616), .int .u64 (m4 x y % 18446744073709551616)] 169)
 replace M := M.keep bn
 replace A0 := A0.keep bn
 replace A1 := A1.keep bn
 replace A2 := A2.keep bn
 replace A3 := A3.keep bn
 have A4 := At.new wv (m4 x y)
 clear bn
 obtain ⟨W9, hW9⟩ : ∃ W9, wv.alloc (.cells #[.int .u64 (m4 x y / 18446744073709551616), .int .u64 (m4 x y % 18446744073709551616)] 169) = W9 := ⟨_, rfl⟩
 rw [hW9] at M A0 A1 A2 A3 A4
 rw [hW9]
 clear hW9
 obtain ⟨⟨Z0, Y0⟩, ⟨Z1, Y1⟩, ⟨Z2, Y2⟩, ⟨Z3, Y3⟩, ⟨Z4, Y4⟩⟩ := HS.out
 have HF := hide (show mulF x y = car (m0 x y % 2251799813685248 + m4 x y / 2251799813685248 * 19) (m1 x y % 2251799813685248 + m0 x y / 2251799813685248) (m2 x y % 2251799813685248 + m1 x y / 2251799813685248) (m3 x y % 2251799813685248 + m2 x y / 2251799813685248) (m4 x y % 2251799813685248 + m3 x y / 2251799813685248) from rfl)
 clear HS HB hx hy
 generalize m0 x y = n0 at *
 generalize m1 x y = n1 at *
 generalize m2 x y = n2 at *
 generalize m3 x y = n3 at *
 generalize m4 x y = n4 at *
 have k0 := fun s : KW W9 => (A0.keep s.keep).c0
 have l0 := fun s : KW W9 => (A0.keep s.keep).c1
 have k1 := fun s : KW W9 => (A1.keep s.keep).c0
 have l1 := fun s : KW W9 => (A1.keep s.keep).c1
 have k2 := fun s : KW W9 => (A2.keep s.keep).c0
 have l2 := fun s : KW W9 => (A2.keep s.keep).c1
 have k3 := fun s : KW W9 => (A3.keep s.keep).c0
 have l3 := fun s : KW W9 => (A3.keep s.keep).c1
 have k4 := fun s : KW W9 => (A4.keep s.keep).c0
 have l4 := fun s : KW W9 => (A4.keep s.keep).c1
 clear A0 A1 A2 A3 A4
 have hne : Nonempty (KW W9) := ⟨⟨W9, Below.refl _ _⟩⟩
 refine wp_region_keep_tail 27 (by kernel_rfl) (by kernel_rfl) ?_
 simp only [List.take_succ_cons, List.take_zero, List.drop_succ_cons, List.drop_zero]
 repeat (go_big_quiet_step (first | (go_at_call 124; exact keep_of (below_any _ _)) | (go_at_call 125; exact keep_of (above_any _ _ (by omega) (by omega))) | (go_at_call 105; exact keep_of (carried_any _ _ _ _ _ _ ⟨by omega, by omega⟩ ⟨by omega, by omega⟩ ⟨by omega, by omega⟩ ⟨by omega, by omega⟩ ⟨by omega, by omega⟩))))
 refine wpQuiet_nil ?_
 intro s
 have HE := HF.out
 rw [← HE]
 replace M := M.keep s.keep
 generalize s.w = W' at M ⊢
 generalize hz : mulF x y = z at HE ⊢
 have H := hide hz
 clear HE HF hz k0 k1 k2 k3 k4 l0 l1 l2 l3 l4 hne
 have H3 := hide M.old
 obtain ⟨_, hs, hf, c0, c1, c2, c3, c4⟩ := M
 clear Z0 Z1 Z2 Z3 Z4 Y0 Y1 Y2 Y3 Y4
 go_wp2
 refine bodyPost_ret (v := z.v) (by simp [results, Tryz.results93, go_sem, c0, c1, c2, c3, c4]) rfl ⟨by rw [H.out], ?_⟩
 exact set5 H3.out (by omega)
open Go.RowKit
structure EAt (W : World) (g : Nat) (x : E5) : Prop where
 size : g < W.heap.size
 free : ∀ o, W.frozen? ⟨g, o, none⟩ = false
 c0 : W.cell? ⟨g, 0, none⟩ = some (.int .u64 x.a)
 c1 : W.cell? ⟨g, 1, none⟩ = some (.int .u64 x.b)
 c2 : W.cell? ⟨g, 2, none⟩ = some (.int .u64 x.c)
 c3 : W.cell? ⟨g, 3, none⟩ = some (.int .u64 x.d)
 c4 : W.cell? ⟨g, 4, none⟩ = some (.int .u64 x.e)
theorem EAt.keep {W W' : World} {g : Nat} {x : E5} (h : EAt W g x) (hb : Below W.heap.size W W') : EAt W' g x :=
 ⟨Nat.lt_of_lt_of_le h.size hb.size, fun o => (hb.frozen (p := ⟨g, o, none⟩) h.size).trans (h.free o), (hb.cell (p := ⟨g, 0, none⟩) h.size).trans h.c0, (hb.cell (p := ⟨g, 1, none⟩) h.size).trans h.c1, (hb.cell (p := ⟨g, 2, none⟩) h.size).trans h.c2, (hb.cell (p := ⟨g, 3, none⟩) h.size).trans h.c3, (hb.cell (p := ⟨g, 4, none⟩) h.size).trans h.c4⟩
theorem EAt.new (W : World) (x : E5) (T : TypeId) : EAt (W.alloc (.cells #[.int .u64 x.a, .int .u64 x.b, .int .u64 x.c, .int .u64 x.d, .int .u64 x.e] T)) W.heap.size x := by
 refine ⟨by simp, ?_, ?_, ?_, ?_, ?_, ?_⟩ <;> simp [go_sem]
theorem EAt.alloc {W : World} {g : Nat} {x : E5} (h : EAt W g x) (o : Obj) : EAt (W.alloc o) g x := h.keep (new_below W o)
theorem EAt.k0 {W : World} {g : Nat} {x : E5} (h : EAt W g x) (s : KW W) : s.w.cell? ⟨g, 0, none⟩ = some (.int .u64 x.a) := (h.keep s.keep).c0
theorem EAt.k1 {W : World} {g : Nat} {x : E5} (h : EAt W g x) (s : KW W) : s.w.cell? ⟨g, 1, none⟩ = some (.int .u64 x.b) := (h.keep s.keep).c1
theorem EAt.k2 {W : World} {g : Nat} {x : E5} (h : EAt W g x) (s : KW W) : s.w.cell? ⟨g, 2, none⟩ = some (.int .u64 x.c) := (h.keep s.keep).c2
theorem EAt.k3 {W : World} {g : Nat} {x : E5} (h : EAt W g x) (s : KW W) : s.w.cell? ⟨g, 3, none⟩ = some (.int .u64 x.d) := (h.keep s.keep).c3
theorem EAt.k4 {W : World} {g : Nat} {x : E5} (h : EAt W g x) (s : KW W) : s.w.cell? ⟨g, 4, none⟩ = some (.int .u64 x.e) := (h.keep s.keep).c4
theorem KW.some (W : World) : Nonempty (KW W) := ⟨⟨W, Below.refl _ _⟩⟩
structure Out (w W : World) (g : Nat) : Prop where
 old : Below w.heap.size w W
 ge : w.heap.size ≤ g
 lie : EAt W g zeroE
theorem Out.keep {w W W' : World} {g : Nat} (h : Out w W g) (hb : Below W.heap.size W W') : Out w W' g := ⟨h.old.trans (hb.mono h.old.size), h.ge, h.lie.keep hb⟩
theorem Out.start0 (w : World) : Out w (w.alloc (.cells #[.int .u64 0, .int .u64 0, .int .u64 0, .int .u64 0, .int .u64 0] 116)) w.heap.size := ⟨new_below w _, Nat.le_refl _, EAt.new w zeroE 116⟩
theorem Out.start1 (w : World) (o : Obj) : Out w ((w.alloc o).alloc (.cells #[.int .u64 0, .int .u64 0, .int .u64 0, .int .u64 0, .int .u64 0] 116)) (w.heap.size + 1) := by
 refine ⟨(new_below w o).trans ((new_below (w.alloc o) _).mono (by simp)), by omega, ?_⟩
 have h := EAt.new (w.alloc o) zeroE 116
 rwa [World.size_alloc] at h
theorem EAt.new1 (w : World) (x : E5) (o : Obj) : EAt ((w.alloc (.cells #[.int .u64 x.a, .int .u64 x.b, .int .u64 x.c, .int .u64 x.d, .int .u64 x.e] 116)).alloc o) w.heap.size x := (EAt.new w x 116).alloc o
theorem five {B g : Nat} {w w1 : World} (h : Below B w w1) (hg : B ≤ g) {u0 u1 u2 u3 u4 : Value} :
  Below B w (((((w1.setCell ⟨g, 0, none⟩ u0).setCell ⟨g, 1, none⟩ u1).setCell ⟨g, 2, none⟩ u2).setCell ⟨g, 3, none⟩ u3).setCell ⟨g, 4, none⟩ u4) :=
 ((((h.setCell (p := ⟨g, 0, none⟩) hg u0).setCell (p := ⟨g, 1, none⟩) hg u1).setCell (p := ⟨g, 2, none⟩) hg u2).setCell (p := ⟨g, 3, none⟩) hg u3).setCell (p := ⟨g, 4, none⟩) hg u4
theorem EAt.of_zero {W : World} {g : Nat} (h : W.heap[g]? = some (.cells #[.int .u64 0, .int .u64 0, .int .u64 0, .int .u64 0, .int .u64 0] 116)) : EAt W g zeroE := by
 have hlt : g < W.heap.size := by
  by_cases hlt : g < W.heap.size
  ·exact hlt
  ·have hn : W.heap[g]? = none := by simp; omega
   rw [hn] at h
   cases h
 refine ⟨hlt, fun o => by simp [World.frozen?, h], ?_, ?_, ?_, ?_, ?_⟩ <;> simp [World.cell?, h, zeroE]
abbrev put5 (W : World) (g : Nat) (z : E5) : World := ((((W.setCell ⟨g, 0, none⟩ (.int .u64 z.a)).setCell ⟨g, 1, none⟩ (.int .u64 z.b)).setCell ⟨g, 2, none⟩ (.int .u64 z.c)).setCell ⟨g, 3, none⟩ (.int .u64 z.d)).setCell ⟨g, 4, none⟩ (.int .u64 z.e)
theorem EAt.put {W : World} {g : Nat} {x : E5} (h : EAt W g x) (z : E5) : EAt (put5 W g z) g z := by
 obtain ⟨hs, hf, c0, c1, c2, c3, c4⟩ := h
 refine ⟨?_, ?_, ?_, ?_, ?_, ?_, ?_⟩ <;> simp [go_sem, hs, hf, c0, c1, c2, c3, c4]
theorem EAt.other {W : World} {g k : Nat} {x : E5} (h : EAt W g x) (hk : g ≠ k) (z : E5) : EAt (put5 W k z) g x := by
 obtain ⟨hs, hf, c0, c1, c2, c3, c4⟩ := h
 refine ⟨?_, ?_, ?_, ?_, ?_, ?_, ?_⟩ <;> simp [go_sem, hs, hf, c0, c1, c2, c3, c4]
theorem Out.other {w W : World} {g k : Nat} (h : Out w W g) (hk : g ≠ k) (hle : w.heap.size ≤ k) (z : E5) : Out w (put5 W k z) g := ⟨five h.old hle, h.ge, h.lie.other hk z⟩
open Go.RowKit
def squaresF : Nat → E5 → E5
 | 0, x => x
 | n + 1, x => squaresF n (mulF x x)
theorem squaresF_ok : ∀ (n : Nat) {x : E5}, x.Ok → (squaresF n x).Ok
 | 0, _, h => h
 | n + 1, _, h => squaresF_ok n (mulF_ok h h)
theorem squares_any (n : Nat) : ∀ (x : E5) (w : World), x.Ok → n < 1000000 →
  Calls Tryz.prog 127 #[x.v, .int .u64 n] w fun r w' => r = .returned (squaresF n x).v ∧ Below w.heap.size w w' := by
 induction n with
 | zero =>
  intro x w hx _
  go_enter Tryz.func127, Tryz.ntmps127
  go_wp2
  exact bodyPost_ret (v := x.v) (by simp [results, Tryz.results127, go_sem]) rfl ⟨rfl, ((Below.refl _ _).alloc (Nat.le_refl _) _).alloc (by simp) _⟩
 | succ n ih =>
  intro x w hx hn
  have HI := hide ih
  clear ih
  have h0 : (((n + 1 : Nat) : Int) == 0) = false := beq_eq_false_iff_ne.2 (by omega)
  have e : ((n + 1 : Nat) : Int) = (n : Int) + 1 := by omega
  rw [e] at h0
  rw [e]
  go_enter Tryz.func127, Tryz.ntmps127
  go_wp2_with fail
  have R := Out.start1 w (.cells #[.int .u64 x.a, .int .u64 x.b, .int .u64 x.c, .int .u64 x.d, .int .u64 x.e] 116)
  refine (mul_any x x _ hx hx).mono ?_
  rintro _ w1 ⟨rfl, hb⟩
  replace R := R.keep hb
  clear hb
  go_wp2_with fail
  refine (HI.out (mulF x x) _ (mulF_ok hx hx) (by omega)).mono ?_
  rintro _ w2 ⟨rfl, hb⟩
  replace R := R.keep hb
  clear hb HI
  rw [show squaresF n (mulF x x) = squaresF (n + 1) x from rfl]
  generalize hz : squaresF (n + 1) x = z
  have H := hide hz
  obtain ⟨old, ge, hs, hf, c0, c1, c2, c3, c4⟩ := R
  have O := hide old
  clear old hz
  go_wp2
  refine bodyPost_ret (v := z.v) (by simp [results, Tryz.results127, go_sem, c0, c1, c2, c3, c4]) rfl ⟨by rw [H.out], ?_⟩
  exact five O.out ge
open Go.RowKit
section
variable {P : Program} {ops : Array Oper} {md : Region.Mode} {W : World} {n : Nat}
def keepOp (P : Program) (o : Oper) (a : Act) (W : World) (K : Act → Prop) : Prop := ∃ v, (∀ s : KW W, keepAt P o a s.w v) ∧ K (a.put o.dst v)
def wpK (P : Program) (ops : Array Oper) (W : World) (Q : Act → Prop) : List Oper → Act → Prop
 | [], a => Q a
 | o :: rest, a => if Region.wanted o (yielded ops a.tmps) then keepOp P o a W (wpK P ops W Q rest) else wpK P ops W Q rest (a.put o.dst undef)
theorem wpK_nil {Q : Act → Prop} {a : Act} (h : Q a) : wpK P ops W Q [] a := h
theorem wpK_step {Q : Act → Prop} {a : Act} {o : Oper} {rest : List Oper}
  (h : ∀ K : Act → Prop, (∀ a, wpK P ops W Q rest a → K a) → if Region.wanted o (yielded ops a.tmps) then keepOp P o a W K else K (a.put o.dst undef)) : wpK P ops W Q (o :: rest) a :=
 h _ (fun _ h => h)
def YK (P : Program) (ops : Array Oper) (W : World) (o : Oper) (v : Value) (a : Act) : Prop :=
 (Region.wanted o (yielded ops a.tmps) = true ∧ ∀ s : KW W, keepAt P o a s.w v) ∨ (Region.wanted o (yielded ops a.tmps) = false ∧ v = undef)
def kOp (P : Program) (ops : Array Oper) (W : World) (i : Nat) (K : Act → Prop) (a : Act) : Prop := ∃ o v, ops[i]? = some o ∧ YK P ops W o v a ∧ K (a.put o.dst v)
theorem YK.same {o : Oper} {v : Value} {a a' : Act} (hy : YK P ops W o v a) (he : execOp a'.eval o = execOp a.eval o) (hw : Region.wanted o (yielded ops a'.tmps) = Region.wanted o (yielded ops a.tmps)) : YK P ops W o v a' := by
 unfold YK keepAt at *
 rw [he, hw]
 exact hy
theorem wpK_yields {Q : Act → Prop} {a : Act} {o : Oper} {rest : List Oper} (h : wpK P ops W Q (o :: rest) a) : ∃ v, YK P ops W o v a ∧ wpK P ops W Q rest (a.put o.dst v) := by
 unfold wpK at h
 by_cases hw : Region.wanted o (yielded ops a.tmps) = true
 ·rw [if_pos hw] at h
  obtain ⟨v, h1, h2⟩ := h
  exact ⟨v, .inl ⟨hw, h1⟩, h2⟩
 ·rw [if_neg hw] at h
  exact ⟨undef, .inr ⟨by simpa using hw, rfl⟩, h⟩
theorem YK.wpOp {W1 : World} (hW : Below W.heap.size W W1) {i : Nat} {o : Oper} {v : Value} {a : Act} (hi : ops[i]? = some o) (hy : YK P ops W o v a) {K : Act → World → Prop} {Q : Exit → Act → World → Prop} (s : KW W1)
  (h : ∀ t : KW W1, K (a.put o.dst v) t.w) : wpOp P ops Q i K a s.w := by
 unfold Go.wpOp
 simp only [hi]
 rcases hy with ⟨hw, hv⟩ | ⟨hw, rfl⟩
 ·rw [if_pos hw]
  refine .inl ?_
  have hk := hv ⟨s.w, hW.trans (s.keep.mono hW.size)⟩
  unfold keepAt at hk
  unfold Oper.wp
  generalize (execOp a.eval o).run P s.w = r at *
  cases r with
  | ok x w' =>
   cases x <;> simp only [keepUpon] at hk <;> simp only [Oper.upon]
   case value u =>
    obtain ⟨e1, e2⟩ := hk
    rw [e1, e2]
    exact h s
   case skip =>
    obtain ⟨e1, e2⟩ := hk
    rw [e1, ← e2]
    exact h s
   case enter f args =>
    obtain ⟨e1, hc⟩ := hk
    rw [e1]
    exact hc.mono fun e w'' ⟨he, hb⟩ => by subst he; exact h (s.next w'' hb)
  | halt x w' => simp only [keepUpon] at hk
 ·rw [if_neg (by rw [hw]; exact Bool.false_ne_true)]
  exact h s
def HeadK (P : Program) (md : Region.Mode) (ops : Array Oper) (W : World) (n : Nat) (L : Array Bool → Act → Prop) : Nat → Array Bool → Act → Prop
 | 0, done, a => L done a
 | f + 1, done, a => (∃ i, i < n ∧ i ∈ Region.ready md ops done) ∧ ∀ i ∈ Region.ready md ops done, i = n ∨ (i < n ∧ kOp P ops W i (HeadK P md ops W n L f (done.setIfInBounds i true)) a)
theorem HeadK.first {i : Nat} {oi : Oper} {v : Value} {L : Array Bool → Act → Prop} (hi : ops[i]? = some oi) (hsel : ∀ (j : Nat) (o : Oper) cs b, ops[j]? = some o → o.op ≠ .select cs b)
  (hs : Region.sinkB md ops (n + 1) = true) (hc : Region.chainB md ops (n + 1) = true) (hn : n + 1 < ops.size) (hin : i < n) (hend : ∀ done a, L done a → Region.ready md ops done = [n]) :
  ∀ (f : Nat) (done : Array Bool) (a : Act), HeadInv md ops (n + 1) done →
   (∀ j oj, ops[j]? = some oj → j ≠ i → done.getD j true = false → (∀ e ∈ oj.after, Region.binds md e = true → e.on ≠ i) → oi.apart ops oj = true) →
   i ∈ Region.ready md ops done → YK P ops W oi v a → HeadK P md ops W n L f (done.setIfInBounds i true) (a.put oi.dst v) → HeadK P md ops W n L (f + 1) done a := by
 intro f
 induction f with
 | zero =>
  intro done a inv _ hr hy H
  refine ⟨⟨i, hin, hr⟩, fun j hj => ?_⟩
  by_cases hji : j = i
  ·subst hji
   exact .inr ⟨hin, oi, v, hi, hy, H⟩
  ·have h1 := ready_mono hj hji
   rw [hend _ _ H] at h1
   exact .inl (by simpa using h1)
 | succ f ih =>
  intro done a inv hfree hr hy H
  have hun := (mem_ready.1 hr).1
  refine ⟨⟨i, hin, hr⟩, fun j hj => ?_⟩
  have hjn : j < n + 1 := Nat.lt_of_not_le fun h => tail_waits hs hc hn inv _ i rfl (by omega) hun j h hj
  by_cases hji : j = i
  ·subst hji
   exact .inr ⟨hin, oi, v, hi, hy, H⟩
  ·rcases H.2 j (ready_mono hj hji) with h0 | ⟨hjlt, oj, u, hoj, hyj, hK⟩
   ·exact .inl h0
   ·obtain ⟨hjun, oj', hoj', hall⟩ := mem_ready.1 hj
    have e : oj' = oj := Option.some.inj (hoj'.symm.trans hoj)
    subst e
    have hno : ∀ e ∈ oj'.after, Region.binds md e = true → e.on ≠ i := by
     intro e he hb heq
     have h1 := hall e he hb
     rw [heq, getD_both hun] at h1
     cases h1
    obtain ⟨h1, h2, h3⟩ := Oper.apart_spec (hfree j oj' hoj hji hjun hno)
    have hyj' : YK P ops W oj' u a := hyj.same (execOp_put oj' (fun cs b => hsel j oj' cs b hoj) a oi.dst v h1).symm (wanted_put oj' a oi.dst v h1).symm
    have hyi' : YK P ops W oi v (a.put oj'.dst u) := hy.same (execOp_put oi (fun cs b => hsel i oi cs b hi) a oj'.dst u h3) (wanted_put oi a oj'.dst u h3)
    refine .inr ⟨hjlt, oj', u, hoj, hyj', ih (done.setIfInBounds j true) _ (inv.set hj hjn) ?_ (ready_mono hr (Ne.symm hji)) hyi' ?_⟩
    ·intro k ok hk hki hku hkn
     refine hfree k ok hk hki ?_ hkn
     by_cases hjk : j = k
     ·subst hjk
      exact hjun
     ·rw [getD_set_ne true hjk] at hku
      exact hku
    ·rw [Array.setIfInBounds_comm _ _ hji, ← Act.put_comm a v u h2]
     exact hK
theorem HeadK.lex {g : Nat} {K : Act → Prop} (hsel : Region.noSelect ops = true) (hs : Region.sinkB md ops (n + 1) = true) (hc : Region.chainB md ops (n + 1) = true) (hn : n + 1 < ops.size) (l : List Oper) :
  ∀ (k : Nat) (done : Array Bool) (a : Act), (∀ j, j < l.length → l[j]? = ops[k + j]?) → k + l.length = n → HeadInv md ops (n + 1) done →
  lexA md ops g n l.length k done = true → wpK P ops W K l a → HeadK P md ops W n (fun d a' => (Region.ready md ops d = [n] ∧ Region.seqB md ops g (n + 1) (d.setIfInBounds n true) = true) ∧ K a') l.length done a := by
 induction l with
 | nil =>
  intro k done a _ hk _ hB h
  simp only [List.length_nil, lexA, Bool.and_eq_true, decide_eq_true_eq] at hB
  exact ⟨hB, h⟩
 | cons o l ih =>
  intro k done a hl hk inv hB h
  have h0 : ops[k]? = some o := by simpa using (hl 0 (by simp)).symm
  simp only [List.length_cons, lexA, Bool.and_eq_true] at hB
  simp only [List.length_cons] at hk
  have hr : k ∈ Region.ready md ops done := by simpa using hB.1.1
  obtain ⟨v, hy, hK⟩ := wpK_yields h
  refine HeadK.first h0 (Region.noSelect_spec hsel) hs hc hn (by omega) (fun d a' hL => hL.1.1) l.length done a inv (Region.free_spec h0 hB.1.2) hr hy ?_
  refine ih (k + 1) _ _ (fun j hj => ?_) (by omega) (inv.set hr (by omega)) hB.2 hK
  have := hl (j + 1) (by simp; omega)
  simpa [Nat.add_assoc, Nat.add_comm 1 j] using this
theorem HeadK.anyT {g : Nat} {L : Array Bool → Act → Prop} {Q : Exit → Act → World → Prop} {om : Oper} (hom : ops[n]? = some om) (hsel : Region.noSelect ops = true) (hs : Region.sinkB md ops (n + 1) = true) (hc : Region.chainB md ops (n + 1) = true) (hn : n + 1 < ops.size) (hfr : freeN md ops n = true)
  {W1 : World} (hW : Below W.heap.size W W1) (p : Value) (hL : ∀ done a, L done a → ∀ s : KW W1, wpAny P md ops Q g (done.setIfInBounds n true) (a.put om.dst p) s.w) :
  ∀ (f : Nat) (done : Array Bool) (a : Act), HeadInv md ops (n + 1) (done.setIfInBounds n true) → HeadK P md ops W n L f done a → ∀ s : KW W1, wpAny P md ops Q (f + g) (done.setIfInBounds n true) (a.put om.dst p) s.w := by
 intro f
 induction f with
 | zero =>
  intro done a _ h s
  rw [Nat.zero_add]
  exact hL done a h s
 | succ f ih =>
  intro done a inv h s
  have e : f + 1 + g = (f + g) + 1 := by omega
  rw [e]
  obtain ⟨⟨i0, hi0, hr0⟩, hall⟩ := h
  have hr0' : i0 ∈ Region.ready md ops (done.setIfInBounds n true) := ready_mono hr0 (by omega)
  refine ⟨fun h0 => (by rw [h0] at hr0'; cases hr0'), fun i hi => ?_⟩
  have hin : i < n + 1 := Nat.lt_of_not_le fun h => tail_waits hs hc hn inv _ i0 rfl (by omega) (mem_ready.1 hr0').1 i h hi
  obtain ⟨hiun, oi, hoi, hie⟩ := mem_ready.1 hi
  have hne : i ≠ n := by
   intro he
   subst he
   by_cases hlt : i < done.size
   ·simp [hlt] at hiun
   ·rw [Array.getD_eq_getD_getElem?, Array.getElem?_eq_none (by simpa using hlt)] at hiun
    cases hiun
  have hF := List.all_eq_true.1 hfr i (List.mem_range.2 (by omega))
  simp only [hoi, hom, Bool.and_eq_true, Bool.not_eq_true'] at hF
  have hwait := waits_of hoi hF.1
  have hrd : i ∈ Region.ready md ops done := by
   rw [mem_ready]
   rw [getD_set_ne true (Ne.symm hne)] at hiun
   refine ⟨hiun, oi, hoi, fun e he hb => ?_⟩
   have := hie e he hb
   rwa [getD_set_ne false (Ne.symm (hwait e he hb))] at this
  rcases hall i hrd with h0 | ⟨hlt, o, v, ho, hy, hK⟩
  ·exact absurd h0 hne
  ·have eo : o = oi := Option.some.inj (ho.symm.trans hoi)
   subst eo
   obtain ⟨h1, h2, h3⟩ := Oper.apart_spec hF.2
   have hso : ∀ cs b, o.op ≠ .select cs b := fun cs b => Region.noSelect_spec hsel i o cs b ho
   have hy' : YK P ops W o v (a.put om.dst p) := hy.same (execOp_put o hso a om.dst p h3) (wanted_put o a om.dst p h3)
   refine hy'.wpOp hW ho s fun t => ?_
   rw [← Act.put_comm a v p h2, Array.setIfInBounds_comm _ _ (Ne.symm hne)]
   refine ih (done.setIfInBounds i true) _ ?_ hK t
   rw [Array.setIfInBounds_comm _ _ hne]
   exact inv.set hi hin
theorem HeadK.anyS {g : Nat} {L : Array Bool → Act → Prop} {Q : Exit → Act → World → Prop} {om : Oper} {Z : Obj} (hom : ops[n]? = some om) (hsel : Region.noSelect ops = true) (hs : Region.sinkB md ops (n + 1) = true) (hc : Region.chainB md ops (n + 1) = true) (hn : n + 1 < ops.size) (hfr : freeN md ops n = true)
  (hg : om.guard = none) (hrun : ∀ a w, (execOp (Act.eval a) om).run P w = .ok (.value (.pointer (some ⟨w.heap.size, 0, none⟩))) (w.alloc Z)) (hend : ∀ done a, L done a → Region.ready md ops done = [n])
  (hL : ∀ done a, L done a → ∀ (w1 : World) (b : Nat), Below W.heap.size W w1 → W.heap.size ≤ b → w1.heap[b]? = some Z → wpAny P md ops Q g (done.setIfInBounds n true) (a.put om.dst (.pointer (some ⟨b, 0, none⟩))) w1) :
  ∀ (f : Nat) (done : Array Bool) (a : Act), HeadInv md ops (n + 1) done → HeadK P md ops W n L f done a → ∀ s : KW W, wpAny P md ops Q (f + 1 + g) done a s.w := by
 have hnow : ∀ (f : Nat) (done : Array Bool) (a : Act) (s : KW W), HeadInv md ops (n + 1) done → n ∈ Region.ready md ops done → HeadK P md ops W n L f done a → wpOp P ops Q n (wpAny P md ops Q (f + g) (done.setIfInBounds n true)) a s.w := by
  intro f done a s inv hr h
  unfold wpOp
  have hw : Region.wanted om (yielded ops a.tmps) = true := by simp [Region.wanted, hg]
  simp only [hom, hw, if_true]
  refine .inl ?_
  unfold Oper.wp
  rw [hrun]
  simp only [Oper.upon]
  have hW1 : Below W.heap.size W (s.w.alloc Z) := s.keep.alloc s.keep.size Z
  refine HeadK.anyT hom hsel hs hc hn hfr hW1 _ ?_ f done a (inv.set hr (by omega)) h ⟨_, Below.refl _ _⟩
  intro d a' hd t
  refine hL d a' hd t.w _ (hW1.trans (t.keep.mono hW1.size)) s.keep.size ?_
  rw [t.keep.block _ (by simp)]
  exact heap_alloc_new s.w Z
 intro f
 induction f with
 | zero =>
  intro done a inv h s
  have e : 0 + 1 + g = (0 + g) + 1 := by omega
  rw [e]
  have hr := hend done a h
  refine ⟨fun h0 => (by rw [hr] at h0; cases h0), fun i hi => ?_⟩
  have hi' : i = n := by rw [hr] at hi; simpa using hi
  rw [hi'] at hi ⊢
  exact hnow 0 done a s inv hi h
 | succ f ih =>
  intro done a inv h s
  have e : f + 1 + 1 + g = (f + 1 + g) + 1 := by omega
  rw [e]
  have h' := h
  obtain ⟨⟨i0, hi0, hr0⟩, hall⟩ := h
  refine ⟨fun h0 => (by rw [h0] at hr0; cases hr0), fun i hi => ?_⟩
  rcases hall i hi with h0 | ⟨hlt, o, v, ho, hy, hK⟩
  ·rw [h0] at hi ⊢
   exact hnow (f + 1) done a s inv hi h'
  ·refine hy.wpOp (Below.refl _ _) ho s fun t => ?_
   exact ih (done.setIfInBounds i true) _ (inv.set hi (by omega)) hK t
theorem wp_region_keep_alloc {id : Nat} {Q : Exit → Act → World → Prop} {a : Act} {l : List Oper} {om : Oper} {Z : Obj} (n : Nat) (hm : P.follows .mixedOrders = true) (hB : lexAllocB .any l.toArray n = true)
  (hom : l.toArray[n]? = some om) (hg : om.guard = none) (hrun : ∀ a w, (execOp (Act.eval a) om).run P w = .ok (.value (.pointer (some ⟨w.heap.size, 0, none⟩))) (w.alloc Z))
  (h : wpK P l.toArray W (fun a' => ∀ (w1 : World) (b : Nat), Below W.heap.size W w1 → W.heap.size ≤ b → w1.heap[b]? = some Z → ∀ a2, a2 = a'.put om.dst (.pointer (some ⟨b, 0, none⟩)) → wpList P l.toArray Q (l.drop (n + 1)) a2 w1) (l.take n) a) :
  (Code.region id l.toArray true).wp P Q a W := by
 simp only [lexAllocB, Bool.and_eq_true, decide_eq_true_eq] at hB
 obtain ⟨⟨⟨⟨⟨hsel, hn⟩, hs⟩, hc⟩, hfr⟩, hlex⟩ := hB
 have hn' : n + 1 < l.length := by simpa using hn
 have htl : (l.take n).length = n := by simp; omega
 have hdl : (l.drop (n + 1)).length = l.toArray.size - (n + 1) := by simp
 have inv : HeadInv .any l.toArray (n + 1) (Array.replicate l.toArray.size false) :=
  ⟨by simp, fun j oj _ hl => (by rw [getD_replicate_false] at hl; cases hl), fun t _ ht => getD_in (by simpa using ht) (getD_replicate_false _ _)⟩
 have H := HeadK.lex (md := .any) (g := l.toArray.size - (n + 1)) hsel hs hc hn (l.take n) 0 _ a (fun j hj => by rw [htl] at hj; simp [hj]) (by simpa using htl) inv (by rw [htl]; exact hlex) h
 refine wp_region_any hm ?_
 have H2 := HeadK.anyS (Q := Q) (g := l.toArray.size - (n + 1)) hom hsel hs hc hn hfr hg hrun (fun d a' hL => hL.1.1) (fun d a' hL w1 b h1 h2 h3 => by
  have := wpAny_of_seq (md := .any) (Q' := Q) (l.drop (n + 1)) (n + 1) (d.setIfInBounds n true) (a'.put om.dst (.pointer (some ⟨b, 0, none⟩))) w1 (fun j => by simp [List.getElem?_drop]) (by rw [hdl]; exact hL.1.2) (hL.2 w1 b h1 h2 h3 _ rfl)
  rwa [hdl] at this) _ _ _ inv H ⟨W.drew, (Below.refl _ _).drew⟩
 rw [htl, show n + 1 + (l.toArray.size - (n + 1)) = l.toArray.size by omega] at H2
 exact H2
end
open Go.RowKit
attribute [local go_sem] keepOp keepAt keepUpon
def onesF (x : E5) : Nat → Nat → E5
 | 0, _ => smallF 1
 | f + 1, n => if n = 0 then smallF 1 else
  if n % 2 = 0 then mulF (squaresF (n / 2) (onesF x f (n / 2))) (onesF x f (n / 2))
  else mulF (squaresF 1 (mulF (squaresF (n / 2) (onesF x f (n / 2))) (onesF x f (n / 2)))) x
theorem onesF_ok {x : E5} (hx : x.Ok) : ∀ (f n : Nat), (onesF x f n).Ok
 | 0, _ => smallF_ok (by decide) (by decide)
 | f + 1, n => by
  have h := onesF_ok hx f (n / 2)
  unfold onesF
  split
  ·exact smallF_ok (by decide) (by decide)
  ·split
   ·exact mulF_ok (squaresF_ok _ h) h
   ·exact mulF_ok (squaresF_ok _ (mulF_ok (squaresF_ok _ h) h)) hx
theorem squares_half (n : Nat) (x : E5) (w : World) (hx : x.Ok) (hn : n < 1000000) :
  Calls Tryz.prog 127 #[x.v, .int .u64 ((n : Int) / 2)] w fun r w' => r = .returned (squaresF (n / 2) x).v ∧ Below w.heap.size w w' := by
 rw [show (n : Int) / 2 = ((n / 2 : Nat) : Int) from by omega]
 exact squares_any (n / 2) x w hx (by omega)
theorem squares_1 (x : E5) (w : World) (hx : x.Ok) : Calls Tryz.prog 127 #[x.v, .int .u64 1] w fun r w' => r = .returned (squaresF 1 x).v ∧ Below w.heap.size w w' := squares_any 1 x w hx (by decide)
theorem squares_3 (x : E5) (w : World) (hx : x.Ok) : Calls Tryz.prog 127 #[x.v, .int .u64 3] w fun r w' => r = .returned (squaresF 3 x).v ∧ Below w.heap.size w w' := squares_any 3 x w hx (by decide)
theorem squares_5 (x : E5) (w : World) (hx : x.Ok) : Calls Tryz.prog 127 #[x.v, .int .u64 5] w fun r w' => r = .returned (squaresF 5 x).v ∧ Below w.heap.size w w' := squares_any 5 x w hx (by decide)
theorem ones_any (x : E5) (hx : x.Ok) (f : Nat) : ∀ (n : Nat) (w : World), n < 2 ^ f → n < 1000000 →
  Calls Tryz.prog 126 #[x.v, .int .u64 n] w fun r w' => r = .returned (onesF x f n).v ∧ Below w.heap.size w w' := by
 induction f with
 | zero =>
  intro n w hn _
  have e : n = 0 := by omega
  subst e
  go_enter Tryz.func126, Tryz.ntmps126
  go_wp2_with fail
  have R := Out.start1 w (.cells #[.int .u64 x.a, .int .u64 x.b, .int .u64 x.c, .int .u64 x.d, .int .u64 x.e] 116)
  refine (small_any 1 _ (by decide) (by decide)).mono ?_
  rintro _ w1 ⟨rfl, hb⟩
  replace R := R.keep hb
  clear hb
  rw [show smallF 1 = onesF x 0 0 from rfl]
  generalize hz : onesF x 0 0 = z
  have H := hide hz
  obtain ⟨old, ge, hs, hf, c0, c1, c2, c3, c4⟩ := R
  have O := hide old
  clear old hz
  go_wp2
  refine bodyPost_ret (v := z.v) (by simp [results, Tryz.results126, go_sem, c0, c1, c2, c3, c4]) rfl ⟨by rw [H.out], ?_⟩
  exact five O.out ge
 | succ f ih =>
  intro n w hn hlt
  have HI := hide ih
  clear ih
  by_cases h0 : n = 0
  ·subst h0
   go_enter Tryz.func126, Tryz.ntmps126
   go_wp2_with fail
   have R := Out.start1 w (.cells #[.int .u64 x.a, .int .u64 x.b, .int .u64 x.c, .int .u64 x.d, .int .u64 x.e] 116)
   refine (small_any 1 _ (by decide) (by decide)).mono ?_
   rintro _ w1 ⟨rfl, hb⟩
   replace R := R.keep hb
   clear hb
   have e : onesF x (f + 1) 0 = smallF 1 := by simp [onesF]
   rw [← e]
   generalize hz : onesF x (f + 1) 0 = z
   have H := hide hz
   obtain ⟨old, ge, hs, hf, c0, c1, c2, c3, c4⟩ := R
   have O := hide old
   clear old hz e
   go_wp2
   refine bodyPost_ret (v := z.v) (by simp [results, Tryz.results126, go_sem, c0, c1, c2, c3, c4]) rfl ⟨by rw [H.out], ?_⟩
   exact five O.out ge
  ·have b0 : ((n : Int) == 0) = false := beq_eq_false_iff_ne.2 (by omega)
   have hp : n / 2 < 2 ^ f := by
    have : 2 ^ (f + 1) = 2 * 2 ^ f := by rw [Nat.pow_succ, Nat.mul_comm]
    omega
   have ok := onesF_ok hx f (n / 2)
   by_cases hodd : n % 2 = 0
   all_goals
    go_enter Tryz.func126, Tryz.ntmps126
    go_wp2_with fail
    have R := Out.start1 w (.cells #[.int .u64 x.a, .int .u64 x.b, .int .u64 x.c, .int .u64 x.d, .int .u64 x.e] 116)
    have A := EAt.new1 w x (.cells #[.int .u64 0, .int .u64 0, .int .u64 0, .int .u64 0, .int .u64 0] 116)
    rw [show (n : Int) / 2 = ((n / 2 : Nat) : Int) from by omega]
    refine (HI.out (n / 2) _ hp (by omega)).mono ?_
    rintro _ w1 ⟨rfl, hb⟩
    replace R := R.keep hb
    replace A := A.keep hb
    clear hb HI
    have he : onesF x (f + 1) n = if n % 2 = 0 then mulF (squaresF (n / 2) (onesF x f (n / 2))) (onesF x f (n / 2)) else mulF (squaresF 1 (mulF (squaresF (n / 2) (onesF x f (n / 2))) (onesF x f (n / 2)))) x := by
     rw [onesF, if_neg h0]
    first | rw [if_pos hodd] at he | rw [if_neg hodd] at he
    have HE := hide he
    clear he
    generalize onesF x f (n / 2) = half at *
    go_wp2_with fail
    replace R := R.keep (new_below w1 (.cells #[.int .u64 half.a, .int .u64 half.b, .int .u64 half.c, .int .u64 half.d, .int .u64 half.e] 116))
    replace A := A.keep (new_below w1 (.cells #[.int .u64 half.a, .int .u64 half.b, .int .u64 half.c, .int .u64 half.d, .int .u64 half.e] 116))
    have B := EAt.new w1 half 116
    generalize w1.heap.size = g at *
    generalize w1.alloc (.cells #[.int .u64 half.a, .int .u64 half.b, .int .u64 half.c, .int .u64 half.d, .int .u64 half.e] 116) = W at *
    have hne := KW.some W
    have a0 := B.k0
    have a1 := B.k1
    have a2 := B.k2
    have a3 := B.k3
    have a4 := B.k4
    refine wp_region_keep_alloc (Z := .cells #[.int .u64 0, .int .u64 0, .int .u64 0, .int .u64 0, .int .u64 0] 116) 6 (by kernel_rfl) (by kernel_rfl) rfl rfl (fun _ _ => by kernel_rfl) ?_
    simp only [List.take_succ_cons, List.take_zero, List.drop_succ_cons, List.drop_zero]
    refine wpK_step (fun K hK => ?_)
    go_simp
    refine hK _ ?_
    clear hK K
    refine wpK_step (fun K hK => ?_)
    go_simp
    refine hK _ ?_
    clear hK K
    refine wpK_step (fun K hK => ?_)
    go_simp
    refine hK _ ?_
    clear hK K
    rw [show IntKind.u64.wrap ((n : Int) / 2) = (n : Int) / 2 from wrap64u ⟨by omega, by omega⟩]
    refine wpK_step (fun K hK => ?_)
    go_simp
    refine ⟨_, fun s => squares_half n half _ ok hlt, hK _ ?_⟩
    clear hK K
    refine wpK_step (fun K hK => ?_)
    go_simp
    refine hK _ ?_
    clear hK K
    refine wpK_step (fun K hK => ?_)
    go_simp
    refine ⟨_, fun s => mul_any _ _ _ (squaresF_ok _ ok) ok, hK _ ?_⟩
    clear hK K
    refine wpK_nil ?_
    intro W1 gb hb1 hb2 hb3 a2 ha2
    simp [go_sem] at ha2
    subst ha2
    clear a0 a1 a2 a3 a4 hne
    have sz := A.size
    have sz2 := R.lie.size
    replace R := R.keep hb1
    replace A := A.keep hb1
    have G := EAt.of_zero hb3
    clear B hb1 hb3
    have ok2 := mulF_ok (squaresF_ok (n / 2) ok) ok
    generalize mulF (squaresF (n / 2) half) half = even at *
    have n1 : ¬ w.heap.size + 1 = gb := by omega
    have n2 : ¬ gb = w.heap.size + 1 := by omega
    have GE := G.put even
    obtain ⟨gs, gf, g0, g1, g2, g3, g4⟩ := G
    have ev : ((n : Int) % 2 == 0) = decide (n % 2 = 0) := by rw [Bool.eq_iff_iff]; simp; omega
   ·rw [decide_eq_true hodd] at ev
    obtain ⟨old, ge, hs, hf, c0, c1, c2, c3, c4⟩ := R
    have O := hide old
    clear old A GE hn h0 hp
    go_wp2_with fail
    refine bodyPost_ret (v := even.v) (by simp [results, Tryz.results126, go_sem, c0, c1, c2, c3, c4]) rfl ⟨by rw [HE.out], ?_⟩
    exact five (five O.out (by omega)) ge
   ·rw [decide_eq_false hodd] at ev
    have RR := hide (R.other (k := gb) (by omega) (by omega) even)
    have AA := hide (A.other (k := gb) (by omega) even)
    have BB := hide GE
    clear A R GE
    go_wp2_with fail
    replace R := RR.out
    replace A := AA.out
    replace B := BB.out
    clear RR AA BB gs gf g0 g1 g2 g3 g4
    obtain ⟨W2, hW2⟩ : ∃ W2, put5 W1 gb even = W2 := ⟨_, rfl⟩
    rw [hW2] at R A B
    rw [show (((((W1.setCell ⟨gb, 0, none⟩ (.int .u64 even.a)).setCell ⟨gb, 1, none⟩ (.int .u64 even.b)).setCell ⟨gb, 2, none⟩ (.int .u64 even.c)).setCell ⟨gb, 3, none⟩ (.int .u64 even.d)).setCell ⟨gb, 4, none⟩ (.int .u64 even.e)) = W2 from hW2]
    clear hW2
    have hne := KW.some W2
    have a0 := B.k0
    have a1 := B.k1
    have a2 := B.k2
    have a3 := B.k3
    have a4 := B.k4
    have b0 := A.k0
    have b1 := A.k1
    have b2 := A.k2
    have b3 := A.k3
    have b4 := A.k4
    clear A B
    refine wp_region_keep_tail 4 (by kernel_rfl) (by kernel_rfl) ?_
    simp only [List.take_succ_cons, List.take_zero, List.drop_succ_cons, List.drop_zero]
    repeat (go_big_quiet_step (first | (go_at_call 127; exact keep_of (squares_1 even _ ok2)) | (go_at_call 93; exact keep_of (mul_any _ _ _ (squaresF_ok _ ok2) hx))))
    refine wpQuiet_nil ?_
    intro s
    clear a0 a1 a2 a3 a4 b0 b1 b2 b3 b4 hne
    replace R := R.keep s.keep
    generalize s.w = W3 at R ⊢
    generalize mulF (squaresF 1 even) x = z at *
    obtain ⟨old, ge, hs, hf, c0, c1, c2, c3, c4⟩ := R
    have O := hide old
    clear old
    go_wp2
    refine bodyPost_ret (v := z.v) (by simp [results, Tryz.results126, go_sem, c0, c1, c2, c3, c4]) rfl ⟨by rw [HE.out], ?_⟩
    exact five O.out ge
open Go.RowKit
def ov1 (x : E5) : Int := (x.a + 19) / 2251799813685248
def ov2 (x : E5) : Int := (x.b + ov1 x) / 2251799813685248
def ov3 (x : E5) : Int := (x.c + ov2 x) / 2251799813685248
def ov4 (x : E5) : Int := (x.d + ov3 x) / 2251799813685248
def ov5 (x : E5) : Int := (x.e + ov4 x) / 2251799813685248
def le0 (x : E5) : Int := ov5 x * 19
def le1 (x : E5) : Int := (x.a + le0 x) / 2251799813685248
def le2 (x : E5) : Int := (x.b + le1 x) / 2251799813685248
def le3 (x : E5) : Int := (x.c + le2 x) / 2251799813685248
def le4 (x : E5) : Int := (x.d + le3 x) / 2251799813685248
def le5 (x : E5) : Int := (x.e + le4 x) / 2251799813685248
def leastF (x : E5) : E5 := ⟨(x.a + le0 x) % 2251799813685248, (x.b + le1 x) % 2251799813685248, (x.c + le2 x) % 2251799813685248, (x.d + le3 x) % 2251799813685248, (x.e + le4 x) % 2251799813685248⟩
structure LB (x : E5) : Prop where
 o1 : 0 ≤ ov1 x ∧ ov1 x ≤ 1
 o2 : 0 ≤ ov2 x ∧ ov2 x ≤ 1
 o3 : 0 ≤ ov3 x ∧ ov3 x ≤ 1
 o4 : 0 ≤ ov4 x ∧ ov4 x ≤ 1
 o5 : 0 ≤ ov5 x ∧ ov5 x ≤ 1
 l0 : 0 ≤ le0 x ∧ le0 x ≤ 19
 l1 : 0 ≤ le1 x ∧ le1 x ≤ 1
 l2 : 0 ≤ le2 x ∧ le2 x ≤ 1
 l3 : 0 ≤ le3 x ∧ le3 x ≤ 1
 l4 : 0 ≤ le4 x ∧ le4 x ≤ 1
 l5 : 0 ≤ le5 x ∧ le5 x ≤ 1
theorem LB.of {x : E5} (hx : x.Ok) : LB x := by
 obtain ⟨a0, a1, b0, b1, c0, c1, d0, d1, e0, e1⟩ := hx
 have o1 : 0 ≤ ov1 x ∧ ov1 x ≤ 1 := by unfold ov1; omega
 have o2 : 0 ≤ ov2 x ∧ ov2 x ≤ 1 := by unfold ov2; omega
 have o3 : 0 ≤ ov3 x ∧ ov3 x ≤ 1 := by unfold ov3; omega
 have o4 : 0 ≤ ov4 x ∧ ov4 x ≤ 1 := by unfold ov4; omega
 have o5 : 0 ≤ ov5 x ∧ ov5 x ≤ 1 := by unfold ov5; omega
 have l0 : 0 ≤ le0 x ∧ le0 x ≤ 19 := by unfold le0; omega
 have l1 : 0 ≤ le1 x ∧ le1 x ≤ 1 := by unfold le1; omega
 have l2 : 0 ≤ le2 x ∧ le2 x ≤ 1 := by unfold le2; omega
 have l3 : 0 ≤ le3 x ∧ le3 x ≤ 1 := by unfold le3; omega
 have l4 : 0 ≤ le4 x ∧ le4 x ≤ 1 := by unfold le4; omega
 have l5 : 0 ≤ le5 x ∧ le5 x ≤ 1 := by unfold le5; omega
 exact ⟨o1, o2, o3, o4, o5, l0, l1, l2, l3, l4, l5⟩
structure E5.Low (x : E5) : Prop where
 a0 : 0 ≤ x.a
 a1 : x.a < 2251799813685248
 b0 : 0 ≤ x.b
 b1 : x.b < 2251799813685248
 c0 : 0 ≤ x.c
 c1 : x.c < 2251799813685248
 d0 : 0 ≤ x.d
 d1 : x.d < 2251799813685248
 e0 : 0 ≤ x.e
 e1 : x.e < 2251799813685248
theorem leastF_low (x : E5) : (leastF x).Low := by
 constructor <;> simp only [leastF] <;> omega
theorem leastF_n {x : E5} (hx : x.Ok) : (leastF x).n = x.n % Pm := by
 have L := LB.of hx
 obtain ⟨a0, a1, b0, b1, c0, c1, d0, d1, e0, e1⟩ := hx
 have hlow := leastF_low x
 obtain ⟨p0, p1, q0, q1, r0, r1, s0, s1, t0, t1⟩ := hlow
 have e : (leastF x).n = x.n + ov5 x * 19 - 57896044618658097711785492504343953926634992332820282019728792003956564819968 * le5 x := by
  simp only [leastF, E5.n, le5, le4, le3, le2, le1, le0]
  omega
 have hov : 57896044618658097711785492504343953926634992332820282019728792003956564819968 * ov5 x ≤ x.n + 19 ∧ x.n + 19 < 57896044618658097711785492504343953926634992332820282019728792003956564819968 * ov5 x + 57896044618658097711785492504343953926634992332820282019728792003956564819968 := by
  simp only [E5.n, ov5, ov4, ov3, ov2, ov1]
  omega
 have hn0 : 0 ≤ x.n := by simp only [E5.n]; omega
 have hr0 : 0 ≤ (leastF x).n := by rw [E5.n]; omega
 have hr1 : (leastF x).n < 57896044618658097711785492504343953926634992332820282019728792003956564819968 := by rw [E5.n]; omega
 have h5 := L.o5
 have h6 := L.l5
 have hle : le5 x = ov5 x := by omega
 rw [hle] at e
 have hk : x.n = (leastF x).n + ov5 x * Pm := by unfold Pm; omega
 have hn1 : x.n < 115792089237316195423570985008687907853269984665640564039457584007913129639898 := by simp only [E5.n]; omega
 have hlt : (leastF x).n < Pm := by unfold Pm; omega
 rw [hk, Int.add_mul_emod_self_right, Int.emod_eq_of_lt hr0 hlt]
theorem least_any (x : E5) (w : World) (hx : x.Ok) :
  Calls Tryz.prog 95 #[x.v] w fun r w' => r = .returned (leastF x).v ∧ Below w.heap.size w w' := by
 have L := LB.of hx
 obtain ⟨a0, a1, b0, b1, c0, c1, d0, d1, e0, e1⟩ := hx
 obtain ⟨⟨o10, o11⟩, ⟨o20, o21⟩, ⟨o30, o31⟩, ⟨o40, o41⟩, ⟨o50, o51⟩, ⟨l00, l01⟩, ⟨l10, l11⟩, ⟨l20, l21⟩, ⟨l30, l31⟩, ⟨l40, l41⟩, ⟨l50, l51⟩⟩ := L
 have i0 : ∀ w, (Instr.index 114 (.agg #[.int .u64 x.a, .int .u64 x.b, .int .u64 x.c, .int .u64 x.d, .int .u64 x.e]) (.int .i64 0)).run Tryz.prog w = .ok (.int .u64 x.a) w := fun _ => by kernel_rfl
 have i1 : ∀ w, (Instr.index 114 (.agg #[.int .u64 x.a, .int .u64 x.b, .int .u64 x.c, .int .u64 x.d, .int .u64 x.e]) (.int .i64 1)).run Tryz.prog w = .ok (.int .u64 x.b) w := fun _ => by kernel_rfl
 have i2 : ∀ w, (Instr.index 114 (.agg #[.int .u64 x.a, .int .u64 x.b, .int .u64 x.c, .int .u64 x.d, .int .u64 x.e]) (.int .i64 2)).run Tryz.prog w = .ok (.int .u64 x.c) w := fun _ => by kernel_rfl
 have i3 : ∀ w, (Instr.index 114 (.agg #[.int .u64 x.a, .int .u64 x.b, .int .u64 x.c, .int .u64 x.d, .int .u64 x.e]) (.int .i64 3)).run Tryz.prog w = .ok (.int .u64 x.d) w := fun _ => by kernel_rfl
 have i4 : ∀ w, (Instr.index 114 (.agg #[.int .u64 x.a, .int .u64 x.b, .int .u64 x.c, .int .u64 x.d, .int .u64 x.e]) (.int .i64 4)).run Tryz.prog w = .ok (.int .u64 x.e) w := fun _ => by kernel_rfl
 have g0 := and51 (x := x.a + le0 x) ⟨by omega, by omega⟩
 have g1 := and51 (x := x.b + le1 x) ⟨by omega, by omega⟩
 have g2 := and51 (x := x.c + le2 x) ⟨by omega, by omega⟩
 have g3 := and51 (x := x.d + le3 x) ⟨by omega, by omega⟩
 have g4 := and51 (x := x.e + le4 x) ⟨by omega, by omega⟩
 go_enter Tryz.func95, Tryz.ntmps95
 go_wp2
 refine wp_loop_rounds 6 ?_
 rw [rounds_succ]
 go_wp2
 rw [show (x.a + 19) / 2251799813685248 = ov1 x from rfl]
 rw [rounds_succ]
 go_wp2
 rw [show (x.b + ov1 x) / 2251799813685248 = ov2 x from rfl]
 rw [rounds_succ]
 go_wp2
 rw [show (x.c + ov2 x) / 2251799813685248 = ov3 x from rfl]
 rw [rounds_succ]
 go_wp2
 rw [show (x.d + ov3 x) / 2251799813685248 = ov4 x from rfl]
 rw [rounds_succ]
 go_wp2
 rw [show (x.e + ov4 x) / 2251799813685248 = ov5 x from rfl]
 rw [rounds_succ]
 go_wp2
 rw [show ov5 x * 19 = le0 x from rfl]
 refine wp_loop_rounds 6 ?_
 rw [rounds_succ]
 go_wp2
 rw [show (x.a + le0 x) / 2251799813685248 = le1 x from rfl]
 rw [rounds_succ]
 go_wp2
 rw [show (x.b + le1 x) / 2251799813685248 = le2 x from rfl]
 rw [rounds_succ]
 go_wp2
 rw [show (x.c + le2 x) / 2251799813685248 = le3 x from rfl]
 rw [rounds_succ]
 go_wp2
 rw [show (x.d + le3 x) / 2251799813685248 = le4 x from rfl]
 rw [rounds_succ]
 go_wp2
 rw [show (x.e + le4 x) / 2251799813685248 = le5 x from rfl]
 rw [rounds_succ]
 go_wp2
 exact bodyPost_ret (v := (leastF x).v) (by simp [results, Tryz.results95, go_sem, leastF]) rfl ⟨rfl, (((Below.refl _ _).alloc (Nat.le_refl _) _).alloc (by simp) _).alloc (by simp; omega) _⟩
open Go.RowKit
def arr (n : Nat) (f : Nat → Int) : Array Value := ((List.range n).map fun i => Value.int .u64 (f i)).toArray
theorem arr_size (n : Nat) (f : Nat → Int) : (arr n f).size = n := by simp [arr]
theorem arr_get (n : Nat) (f : Nat → Int) (i : Nat) (h : i < n) : (arr n f)[i]? = some (.int .u64 (f i)) := by simp [arr, h]
theorem arr_congr {n : Nat} {f g : Nat → Int} (h : ∀ i, i < n → f i = g i) : arr n f = arr n g := by
 unfold arr
 congr 1
 exact List.map_congr_left fun i hi => by rw [h i (List.mem_range.1 hi)]
def upd (f : Nat → Int) (k : Nat) (v : Int) : Nat → Int := fun i => if i = k then v else f i
theorem arr_set (n : Nat) (f : Nat → Int) (k : Nat) (v : Int) : (arr n f).setIfInBounds k (.int .u64 v) = arr n (upd f k v) := by
 apply Array.ext_getElem?
 intro i
 by_cases hi : i < n
 ·rw [Array.getElem?_setIfInBounds, arr_get n (upd f k v) i hi]
  by_cases hk : k = i
  ·subst hk
   rw [if_pos rfl, if_pos (by rw [arr_size]; exact hi)]
   simp [upd]
  ·have : ¬ i = k := fun h => hk h.symm
   rw [if_neg hk, arr_get n f i hi]
   simp [upd, this]
 ·rw [Array.getElem?_eq_none (by simp [arr_size]; omega), Array.getElem?_eq_none (by simp [arr_size]; omega)]
def Row (w : World) (g : Nat) (T : TypeId) (n : Nat) (f : Nat → Int) : Prop := w.heap[g]? = some (.cells (arr n f) T (0, 0))
theorem Row.lt {w : World} {g : Nat} {T : TypeId} {n : Nat} {f : Nat → Int} (h : Row w g T n f) : g < w.heap.size := by
 by_cases hlt : g < w.heap.size
 ·exact hlt
 ·have hn : w.heap[g]? = none := by simp; omega
  rw [Row, hn] at h
  cases h
theorem Row.cell {w : World} {g : Nat} {T : TypeId} {n : Nat} {f : Nat → Int} (h : Row w g T n f) {i : Nat} (hi : i < n) : w.cell? ⟨g, i, none⟩ = some (.int .u64 (f i)) := by
 rw [cell_of_row w g i (arr n f) T (0, 0) h, arr_get n f i hi]
theorem Row.free {w : World} {g : Nat} {T : TypeId} {n : Nat} {f : Nat → Int} (h : Row w g T n f) (i : Nat) : w.frozen? ⟨g, i, none⟩ = false := frozen_of_row w g i (arr n f) T h
theorem Row.set {w : World} {g : Nat} {T : TypeId} {n : Nat} {f : Nat → Int} (h : Row w g T n f) (k : Nat) (v : Int) : Row (w.setCell ⟨g, k, none⟩ (.int .u64 v)) g T n (upd f k v) := by
 unfold Row
 rw [heap_setCell_same w g k (arr n f) T _ h, arr_set]
theorem Row.other {w : World} {g : Nat} {T : TypeId} {n : Nat} {f : Nat → Int} (h : Row w g T n f) {a : Addr} (ha : g ≠ a.block) (v : Value) : Row (w.setCell a v) g T n f := by
 unfold Row
 rw [heap_setCell_other w a g v ha]
 exact h
theorem Row.keep {w w' : World} {g : Nat} {T : TypeId} {n : Nat} {f : Nat → Int} (h : Row w g T n f) (hb : Below w.heap.size w w') : Row w' g T n f := by
 unfold Row
 rw [hb.block g h.lt]
 exact h
theorem Row.alloc {w : World} {g : Nat} {T : TypeId} {n : Nat} {f : Nat → Int} (h : Row w g T n f) (o : Obj) : Row (w.alloc o) g T n f := h.keep ((Below.refl _ _).alloc (Nat.le_refl _) _)
theorem Row.congr {w : World} {g : Nat} {T : TypeId} {n : Nat} {f f' : Nat → Int} (h : Row w g T n f) (e : ∀ i, i < n → f i = f' i) : Row w g T n f' := by
 unfold Row
 rw [← arr_congr e]
 exact h
theorem Row.new (w : World) (T : TypeId) (n : Nat) (f : Nat → Int) : Row (w.alloc (.cells (arr n f) T)) w.heap.size T n f := heap_alloc_new w _
theorem Row.new' (w : World) (T : TypeId) (n : Nat) (f : Nat → Int) {g : Nat} (hg : g = w.heap.size) : Row (w.alloc (.cells (arr n f) T)) g T n f := by
 subst hg
 exact heap_alloc_new w _
open Go.RowKit
def eqw (f g : Nat → Int) : Nat → Nat → Bool
 | _, 0 => true
 | k, m + 1 => (f k == g k) && eqw f g (k + 1) m
theorem run_eqs_from (d n : Nat) (f g : Nat → Int) (w : World) : ∀ (m k : Nat), k + m ≤ n →
  Sem.run Tryz.prog (forIn (List.range' k m 1) ((none, ()) : Option Bool × Unit) fun i _ => do
   let a ← part 86 (arr n f) i
   let b ← part 86 (arr n g) i
   let r ← Op.equalIn (d + 1) 86 a b
   if (!r) = true then pure (ForInStep.done (some false, ())) else pure (ForInStep.yield (none, ()))) w = .ok (if eqw f g k m = true then none else some false, ()) w := by
 intro m
 induction m with
 | zero => intro k _; simp [eqw, Sem.run_pure]
 | succ m ih =>
  intro k hk
  have hp : ∀ h : Nat → Int, (part 86 (arr n h) k).run Tryz.prog w = .ok (.int .u64 (h k)) w := fun h => by
   have ha : (isAgg 86).run Tryz.prog w = .ok false w := by kernel_rfl
   simp [part, Sem.run_bind, ha, arr_get n h k (by omega)]
  simp only [List.range'_succ, List.forIn_cons, Sem.run_bind, hp, Result.andThen_ok, run_equalIn_int w d 86 .u64 .u64 (f k) (g k) Tryz.underlying86]
  cases hc : (f k == g k)
  ·simp [eqw, hc, Sem.run_pure]
  ·simp only [Bool.not_true, Bool.false_eq_true, if_false, Sem.run_pure, Result.andThen_ok, eqw, hc, Bool.true_and]
   exact ih (k + 1) (by omega)
theorem run_equalIn_words (d : Nat) (t : TypeId) (n : Nat) (f g : Nat → Int) (w : World) (ht : Tryz.prog.underlying t = some (.array n 86)) :
  (Op.equalIn (d + 1 + 1) t (.agg (arr n f)) (.agg (arr n g))).run Tryz.prog w = .ok (eqw f g 0 n) w := by
 have hz : (sizeOf 86).run Tryz.prog w = .ok 1 w := by kernel_rfl
 rw [Op.equalIn]
 simp only [Sem.run_bind, run_underlying ht, Result.andThen_ok, hz, Nat.mul_one]
 rw [Std.Legacy.Range.forIn_eq_forIn_range']
 have e : ([:n] : Std.Legacy.Range).size = n := by simp [Std.Legacy.Range.size]
 rw [e]
 have h := run_eqs_from d n f g w n 0 (by omega)
 rw [h]
 cases hc : eqw f g 0 n <;> simp [Sem.run_pure]
theorem run_eql_words (t : TypeId) (n : Nat) (f g : Nat → Int) (w : World) (ht : Tryz.prog.underlying t = some (.array n 86)) :
  (binOp .eql t (.agg (arr n f)) (.agg (arr n g))).run Tryz.prog w = .ok (.bool (eqw f g 0 n)) w := by
 rw [run_eql_struct, run_equalIn_words 9998 t n f g w ht]
 rfl
def E5.fn (x : E5) (i : Nat) : Int := [x.a, x.b, x.c, x.d, x.e].getD i 0
def eq5 (x y : E5) : Bool := eqw x.fn y.fn 0 5
theorem run_eql_e5 (x y : E5) (w : World) : (binOp .eql 114 x.v y.v).run Tryz.prog w = .ok (.bool (eq5 x y)) w :=
 run_eql_words 114 5 x.fn y.fn w Tryz.underlying114
theorem eq5_iff (x y : E5) : eq5 x y = true ↔ x = y := by
 obtain ⟨a, b, c, d, e⟩ := x
 obtain ⟨f, g, h, i, j⟩ := y
 simp only [eq5, eqw, E5.fn, E5.mk.injEq]
 simp
theorem eqw_iff (f g : Nat → Int) : ∀ (m k : Nat), eqw f g k m = true ↔ ∀ i, k ≤ i → i < k + m → f i = g i := by
 intro m
 induction m with
 | zero => intro k; simp only [eqw]; exact ⟨fun _ i h1 h2 => by omega, fun _ => trivial⟩
 | succ m ih =>
  intro k
  simp only [eqw, Bool.and_eq_true, beq_iff_eq, ih (k + 1)]
  constructor
  ·intro h i h1 h2
   by_cases e : i = k
   ·rw [e]; exact h.1
   ·exact h.2 i (by omega) (by omega)
  ·intro h
   exact ⟨h k (by omega) (by omega), fun i h1 h2 => h i (by omega) (by omega)⟩
open Go.RowKit
theorem low_inj {x y : E5} (hx : x.Low) (hy : y.Low) (h : x.n = y.n) : x = y := by
 obtain ⟨a, b, c, d, e⟩ := x
 obtain ⟨f, g, i, j, k⟩ := y
 obtain ⟨a0, a1, b0, b1, c0, c1, d0, d1, e0, e1⟩ := hx
 obtain ⟨f0, f1, g0, g1, h0, h1, i0, i1, j0, j1⟩ := hy
 simp only [E5.n] at *
 have h1 : a = f := by omega
 have h2 : b = g := by omega
 have h3 : c = i := by omega
 have h4 : d = j := by omega
 have h5 : e = k := by omega
 rw [h1, h2, h3, h4, h5]
theorem sameR {x y : E5} (hx : x.Ok) (hy : y.Ok) : eq5 (leastF x) (leastF y) = (x.n % Pm == y.n % Pm) := by
 rw [Bool.eq_iff_iff, eq5_iff, beq_iff_eq, ← leastF_n hx, ← leastF_n hy]
 exact ⟨fun h => by rw [h], fun h => low_inj (leastF_low x) (leastF_low y) h⟩
theorem same_any (x y : E5) (w : World) (hx : x.Ok) (hy : y.Ok) : Cs 69 #[x.v, y.v] w (.bool (x.n % Pm == y.n % Pm)) := by
 have hg : Tryz.prog.eqGuardType Tryz.prog.depth 114 = false := by kernel_rfl
 have he := run_eql_e5 (leastF x) (leastF y)
 go_enter Tryz.func69, Tryz.ntmps69
 go_wp2_with fail
 have A := (EAt.new w x 116).alloc (.cells #[.int .u64 y.a, .int .u64 y.b, .int .u64 y.c, .int .u64 y.d, .int .u64 y.e] 116)
 have B := EAt.new (w.alloc (.cells #[.int .u64 x.a, .int .u64 x.b, .int .u64 x.c, .int .u64 x.d, .int .u64 x.e] 116)) y 116
 rw [World.size_alloc] at B
 have O := hide (((Below.refl w.heap.size w).alloc (Nat.le_refl _) (.cells #[.int .u64 x.a, .int .u64 x.b, .int .u64 x.c, .int .u64 x.d, .int .u64 x.e] 116)).alloc (by simp) (.cells #[.int .u64 y.a, .int .u64 y.b, .int .u64 y.c, .int .u64 y.d, .int .u64 y.e] 116))
 generalize (w.alloc (.cells #[.int .u64 x.a, .int .u64 x.b, .int .u64 x.c, .int .u64 x.d, .int .u64 x.e] 116)).alloc (.cells #[.int .u64 y.a, .int .u64 y.b, .int .u64 y.c, .int .u64 y.d, .int .u64 y.e] 116) = W at A B O ⊢
 have hne := KW.some W
 have c0 := A.k0
 have d0 := B.k0
 have c1 := A.k1
 have d1 := B.k1
 have c2 := A.k2
 have d2 := B.k2
 have c3 := A.k3
 have d3 := B.k3
 have c4 := A.k4
 have d4 := B.k4
 clear A B
 refine wp_region_keep (by kernel_rfl) (by kernel_rfl) ?_
 repeat (go_big_quiet_step ((go_at_call 95; exact keep_of (least_any _ _ (by first | exact hx | exact hy)))))
 refine wpQuiet_nil ?_
 intro s
 have hw := O.out.trans (s.keep.mono O.out.size)
 have HR := hide (sameR hx hy)
 clear he hg c0 c1 c2 c3 c4 d0 d1 d2 d3 d4 O hne
 go_wp2
 go_ret
 exact ⟨by rw [← HR.out]; rfl, hw⟩
open Go.RowKit
theorem ones_250 (x : E5) (w : World) (hx : x.Ok) : Calls Tryz.prog 126 #[x.v, .int .u64 250] w fun r w' => r = .returned (onesF x 8 250).v ∧ Below w.heap.size w w' := ones_any x hx 8 250 w (by decide) (by decide)
theorem ones_2 (x : E5) (w : World) (hx : x.Ok) : Calls Tryz.prog 126 #[x.v, .int .u64 2] w fun r w' => r = .returned (onesF x 8 2).v ∧ Below w.heap.size w w' := ones_any x hx 8 2 w (by decide) (by decide)
def invF (x : E5) : E5 := mulF (mulF (squaresF 5 (onesF x 8 250)) (squaresF 3 x)) (onesF x 8 2)
theorem invF_ok {x : E5} (hx : x.Ok) : (invF x).Ok := mulF_ok (mulF_ok (squaresF_ok _ (onesF_ok hx _ _)) (squaresF_ok _ hx)) (onesF_ok hx _ _)
theorem inv_any (x : E5) (w : World) (hx : x.Ok) :
  Calls Tryz.prog 94 #[x.v] w fun r w' => r = .returned (invF x).v ∧ Below w.heap.size w w' := by
 have k1 := onesF_ok hx 8 250
 have k2 := onesF_ok hx 8 2
 have HE := hide (show invF x = mulF (mulF (squaresF 5 (onesF x 8 250)) (squaresF 3 x)) (onesF x 8 2) from rfl)
 go_enter Tryz.func94, Tryz.ntmps94
 go_wp2_with fail
 have R := Out.start1 w (.cells #[.int .u64 x.a, .int .u64 x.b, .int .u64 x.c, .int .u64 x.d, .int .u64 x.e] 116)
 have A := EAt.new1 w x (.cells #[.int .u64 0, .int .u64 0, .int .u64 0, .int .u64 0, .int .u64 0] 116)
 generalize (w.alloc (.cells #[.int .u64 x.a, .int .u64 x.b, .int .u64 x.c, .int .u64 x.d, .int .u64 x.e] 116)).alloc (.cells #[.int .u64 0, .int .u64 0, .int .u64 0, .int .u64 0, .int .u64 0] 116) = W at R A ⊢
 have hne := KW.some W
 have a0 := A.k0
 have a1 := A.k1
 have a2 := A.k2
 have a3 := A.k3
 have a4 := A.k4
 clear A
 refine wp_region_keep_tail 9 (by kernel_rfl) (by kernel_rfl) ?_
 simp only [List.take_succ_cons, List.take_zero, List.drop_succ_cons, List.drop_zero]
 iterate 1 go_big_quiet_step (fail)
 go_big_quiet_step ((exact keep_of (ones_250 x _ hx)))
 generalize onesF x 8 250 = y1 at *
 go_big_quiet_step ((exact keep_of (squares_5 y1 _ k1)))
 have k3 := squaresF_ok 5 k1
 generalize squaresF 5 y1 = y2 at *
 go_big_quiet_step (fail)
 go_big_quiet_step ((exact keep_of (squares_3 x _ hx)))
 have k4 := squaresF_ok 3 hx
 generalize squaresF 3 x = y3 at *
 go_big_quiet_step ((exact keep_of (mul_any y2 y3 _ k3 k4)))
 have k5 := mulF_ok k3 k4
 generalize mulF y2 y3 = y4 at *
 go_big_quiet_step (fail)
 go_big_quiet_step ((exact keep_of (ones_2 x _ hx)))
 generalize onesF x 8 2 = y5 at *
 go_big_quiet_step ((exact keep_of (mul_any y4 y5 _ k5 k2)))
 generalize mulF y4 y5 = z at *
 refine wpQuiet_nil ?_
 intro s
 clear a0 a1 a2 a3 a4 hne k1 k2 k3 k4 k5
 replace R := R.keep s.keep
 generalize s.w = W3 at R ⊢
 obtain ⟨old, ge, hs, hf, c0, c1, c2, c3, c4⟩ := R
 have O := hide old
 clear old
 go_wp2
 refine bodyPost_ret (v := z.v) (by simp [results, Tryz.results94, go_sem, c0, c1, c2, c3, c4]) rfl ⟨by rw [HE.out], ?_⟩
 exact five O.out ge
open Go.RowKit
def sqz (y : Int) : Nat → Int
 | 0 => y
 | n + 1 => sqz (y * y) n
def onz (x : Int) : Nat → Int
 | 0 => 1
 | k + 1 => onz x k * onz x k * x
theorem sqz_succ (n : Nat) : ∀ y, sqz y (n + 1) = sqz y n * sqz y n := by
 induction n with
 | zero => intro y; rfl
 | succ n ih => intro y; exact ih (y * y)
theorem onz_add (x : Int) (m : Nat) : ∀ k, onz x (m + k) = sqz (onz x m) k * onz x k
 | 0 => by simp [sqz, onz]
 | k + 1 => by
  have ih := onz_add x m k
  rw [← Nat.add_assoc]
  simp only [onz]
  rw [ih, sqz_succ]
  generalize sqz (onz x m) k = a
  generalize onz x k = b
  simp only [Int.mul_assoc, Int.mul_left_comm b a]
theorem sqz_cg {y z : Int} : ∀ {n : Nat}, Cg y z → Cg (sqz y n) (sqz z n) := by
 intro n
 induction n generalizing y z with
 | zero => intro h; exact h
 | succ n ih => intro h; exact ih (h.mul h)
theorem squaresF_n : ∀ (n : Nat) (x : E5), Cg (squaresF n x).n (sqz x.n n)
 | 0, _ => Cg.refl _
 | n + 1, x => (squaresF_n n (mulF x x)).trans (sqz_cg (mulF_n x x))
theorem onesF_n (x : E5) : ∀ (f n : Nat), n < 2 ^ f → Cg (onesF x f n).n (onz x.n n) := by
 intro f
 induction f with
 | zero =>
  intro n h
  have e : n = 0 := by omega
  subst e
  exact smallF_n 1
 | succ f ih =>
  intro n h
  unfold onesF
  by_cases h0 : n = 0
  ·rw [if_pos h0]
   subst h0
   exact smallF_n 1
  ·rw [if_neg h0]
   have hp : 2 ^ (f + 1) = 2 * 2 ^ f := by rw [Nat.pow_succ, Nat.mul_comm]
   have hh := ih (n / 2) (by omega)
   have he : Cg (mulF (squaresF (n / 2) (onesF x f (n / 2))) (onesF x f (n / 2))).n (onz x.n (n / 2 + n / 2)) := by
    rw [onz_add]
    exact (mulF_n _ _).trans (((squaresF_n _ _).trans (sqz_cg hh)).mul hh)
   by_cases h2 : n % 2 = 0
   ·rw [if_pos h2]
    rw [show n / 2 + n / 2 = n by omega] at he
    exact he
   ·rw [if_neg h2]
    refine (mulF_n _ _).trans ?_
    have e : onz x.n n = onz x.n (n / 2 + n / 2) * onz x.n (n / 2 + n / 2) * x.n := by
     rw [show onz x.n n = onz x.n (n / 2 + n / 2 + 1) by congr 1; omega]
     rfl
    rw [e]
    exact ((squaresF_n 1 _).trans (he.mul he)).mul (Cg.refl _)
theorem invF_n (x : E5) : Cg (invF x).n (sqz (onz x.n 250) 5 * sqz x.n 3 * onz x.n 2) := by
 unfold invF
 exact (mulF_n _ _).trans (((mulF_n _ _).trans (((squaresF_n 5 _).trans (sqz_cg (onesF_n x 8 250 (by decide)))).mul (squaresF_n 3 x))).mul (onesF_n x 8 2 (by decide)))
def pQ : Nat := 57896044618658097711785492504343953926634992332820282019728792003956564819948
abbrev pN : Nat := pQ + 1
theorem pN_P : (pN : Int) = Pm := by decide
abbrev Fq := Fin pN
theorem genQ : Gen pN 2 := genP
theorem primeP : IsP pN := genQ.isP
theorem dvd_or {a b : Nat} (h : pN ∣ a * b) : pN ∣ a ∨ pN ∣ b := by
 by_cases ha : pN ∣ a
 ·exact .inl ha
 ·right
  have hg : Nat.Coprime pN a := by
   rcases primeP.2 _ (Nat.gcd_dvd_left pN a) with h1 | h1
   ·exact h1
   ·exact absurd (h1 ▸ Nat.gcd_dvd_right pN a) ha
  exact Nat.Coprime.dvd_of_dvd_mul_left hg h
theorem fq_zero {a : Fq} (h : pN ∣ a.val) : a = 0 := by
 apply Fin.ext
 have h1 := Nat.mod_eq_zero_of_dvd h
 rw [Nat.mod_eq_of_lt a.isLt] at h1
 rw [h1]
 rfl
theorem fq_mul {a b : Fq} (h : a * b = 0) : a = 0 ∨ b = 0 := by
 have h1 : a.val * b.val % pN = 0 := by
  have := congrArg Fin.val h
  rw [Fin.val_mul] at this
  exact this
 rcases dvd_or (Nat.dvd_of_mod_eq_zero h1) with h2 | h2
 ·exact .inl (fq_zero h2)
 ·exact .inr (fq_zero h2)
theorem fq_ne {a b : Fq} (ha : a ≠ 0) (hb : b ≠ 0) : a * b ≠ 0 := fun h => by
 rcases fq_mul h with h | h
 ·exact ha h
 ·exact hb h
theorem fermatN {a : Nat} (h0 : 0 < a) (h1 : a < pN) : a ^ (pN - 1) % pN = 1 := by
 obtain ⟨i, hi⟩ := genQ.all a h0 h1
 rw [← hi, ← Nat.pow_mod, ← Nat.pow_mul, Nat.mul_comm, Nat.pow_mul]
 exact one_pow_mod genQ.gt genQ.per i
def finv (a : Fq) : Fq := ⟨pmf pN 255 a.val (pN - 2) % pN, Nat.mod_lt _ (by decide)⟩
theorem finv_mul {a : Fq} (h : a ≠ 0) : a * finv a = 1 := by
 have h0 : 0 < a.val := by
  refine Nat.pos_of_ne_zero fun e => h ?_
  apply Fin.ext
  rw [e]
  rfl
 apply Fin.ext
 rw [Fin.val_mul]
 show a.val * (pmf pN 255 a.val (pN - 2) % pN) % pN = 1
 rw [pmf_eq pN 255 a.val _ (by decide), Nat.mod_mod, Nat.mul_mod_mod]
 have e : a.val * a.val ^ (pN - 2) = a.val ^ (pN - 1) := by
  rw [show pN - 1 = (pN - 2) + 1 by decide, Nat.pow_succ, Nat.mul_comm]
 rw [e]
 exact fermatN h0 a.isLt
def dE : Fq := 37095705934669439343138083508754565189542113879843219016388785533085940283555
def iE : Fq := 19681161376707505956807079304988542015446066515923890162744021073123829784752
theorem iE_sq : iE * iE = -1 := by decide +kernel
theorem dE_half : pmf pN 255 dE.val ((pN - 1) / 2) = pN - 1 := by decide +kernel
theorem not_sq (z : Fq) : z * z ≠ dE := by
 intro h
 have h1 : z.val * z.val % pN = dE.val := by
  have := congrArg Fin.val h
  rwa [Fin.val_mul] at this
 have h2 := dE_half
 rw [pmf_eq pN 255 _ _ (by decide), ← h1, ← Nat.pow_mod, ← Nat.pow_two, ← Nat.pow_mul, show 2 * ((pN - 1) / 2) = pN - 1 by decide] at h2
 by_cases hz : z.val = 0
 ·rw [hz, Nat.zero_pow (by decide)] at h2
  revert h2
  decide
 ·rw [fermatN (Nat.pos_of_ne_zero hz) z.isLt] at h2
  revert h2
  decide
theorem two_ne : (2 : Fq) ≠ 0 := by decide +kernel
theorem one_ne : (1 : Fq) ≠ 0 := by decide +kernel
def On (x y : Fq) : Prop := y * y - x * x = 1 + dE * (x * x * (y * y))
theorem sq_key {i d x1 y1 x2 y2 e : Fq} (hi : i * i = -1) (he : e * e = 1) (h1 : y1 * y1 - x1 * x1 = 1 + d * (x1 * x1 * (y1 * y1))) (h2 : y2 * y2 - x2 * x2 = 1 + d * (x2 * x2 * (y2 * y2))) (h : d * (x1 * x2 * (y1 * y2)) = e) :
  (i * (i * x1 + e * y1)) * (i * (i * x1 + e * y1)) = d * ((i * x1 * y1 * (i * x2 + y2)) * (i * x1 * y1 * (i * x2 + y2))) := by
 grind
theorem fq_cancel {a b c : Fq} (hc : c ≠ 0) (h : a * c = b * c) : a = b := by
 have h1 : (a - b) * c = 0 := by clear hc; grind
 rcases fq_mul h1 with h2 | h2
 ·clear h h1 hc
  grind
 ·exact absurd h2 hc
theorem no_root {A B : Fq} (h : A * A = dE * (B * B)) : B = 0 := by
 refine Classical.byContradiction fun hB => ?_
 have hi := finv_mul hB
 refine not_sq (A * finv B) ?_
 generalize finv B = c at hi ⊢
 grind
theorem nn (e : Fq) : -e * -e = e * e := by grind
theorem z4 {d x1 y1 x2 y2 : Fq} (h : x1 = 0) : d * (x1 * x2 * (y1 * y2)) = 0 := by rw [h]; grind
theorem z5 {d x1 y1 x2 y2 : Fq} (h : y1 = 0) : d * (x1 * x2 * (y1 * y2)) = 0 := by rw [h]; grind
theorem z6 {d x1 y1 x2 y2 : Fq} (h : y2 = 0) : d * (x1 * x2 * (y1 * y2)) = 0 := by rw [h]; grind
theorem z7 {i x y : Fq} (h1 : i * x + y = 0) (h2 : i * x + -y = 0) : 2 * y = 0 := by grind
theorem n1 (d x1 y1 x2 y2 : Fq) : d * (x1 * x2 * (y1 * -y2)) = -(d * (x1 * x2 * (y1 * y2))) := by grind
theorem n2 {d x y : Fq} (h : y * y - x * x = 1 + d * (x * x * (y * y))) : -y * -y - x * x = 1 + d * (x * x * (-y * -y)) := by rw [nn]; exact h
theorem n3 {a : Fq} (h : 1 + a = 0) : a = -1 := by grind
theorem n4 {a : Fq} (h : 1 - a = 0) : a = 1 := by grind
theorem n5 : (-1 : Fq) * -1 = 1 := by grind
theorem n6 : (1 : Fq) * 1 = 1 := by grind
theorem zz : (0 : Fq) * 0 = 0 := by grind
theorem den_ne {x1 y1 x2 y2 e : Fq} (h1 : On x1 y1) (h2 : On x2 y2) (he : e * e = 1) : dE * (x1 * x2 * (y1 * y2)) ≠ e := by
 intro h
 unfold On at h1 h2
 have k1 := no_root (sq_key iE_sq he h1 h2 h)
 have k2 := no_root (sq_key (i := iE) (e := -e) (y2 := -y2) iE_sq (by rw [nn]; exact he) h1 (n2 h2) (by rw [n1, h]))
 have he0 : e ≠ 0 := fun e0 => one_ne (by rw [← he, e0]; exact zz)
 have hx1 : x1 ≠ 0 := fun e0 => he0 (by rw [← h]; exact z4 e0)
 have hy1 : y1 ≠ 0 := fun e0 => he0 (by rw [← h]; exact z5 e0)
 have hy2 : y2 ≠ 0 := fun e0 => he0 (by rw [← h]; exact z6 e0)
 have hi : iE ≠ 0 := by decide +kernel
 have hw : iE * x1 * y1 ≠ 0 := fq_ne (fq_ne hi hx1) hy1
 rcases fq_mul k1 with h3 | h3
 ·exact hw h3
 ·rcases fq_mul k2 with h4 | h4
  ·exact hw h4
  ·rcases fq_mul (z7 h3 h4) with h5 | h5
   ·exact two_ne h5
   ·exact hy2 h5
theorem den_plus {x1 y1 x2 y2 : Fq} (h1 : On x1 y1) (h2 : On x2 y2) : 1 + dE * (x1 * x2 * (y1 * y2)) ≠ 0 := fun h => den_ne (e := -1) h1 h2 n5 (n3 h)
theorem den_minus {x1 y1 x2 y2 : Fq} (h1 : On x1 y1) (h2 : On x2 y2) : 1 - dE * (x1 * x2 * (y1 * y2)) ≠ 0 := fun h => den_ne (e := 1) h1 h2 n6 (n4 h)
structure Pt where
 x : Fq
 y : Fq
 on : On x y
theorem Pt.ext {p q : Pt} (hx : p.x = q.x) (hy : p.y = q.y) : p = q := by
 cases p
 cases q
 simp only at hx hy
 subst hx
 subst hy
 rfl
theorem on_key {d x1 y1 x2 y2 X Y : Fq} (h1 : y1 * y1 - x1 * x1 = 1 + d * (x1 * x1 * (y1 * y1))) (h2 : y2 * y2 - x2 * x2 = 1 + d * (x2 * x2 * (y2 * y2))) (hX : X * (1 + d * (x1 * x2 * (y1 * y2))) = x1 * y2 + y1 * x2) (hY : Y * (1 - d * (x1 * x2 * (y1 * y2))) = y1 * y2 + x1 * x2) :
  (Y * Y - X * X) * ((1 + d * (x1 * x2 * (y1 * y2))) * (1 - d * (x1 * x2 * (y1 * y2))) * ((1 + d * (x1 * x2 * (y1 * y2))) * (1 - d * (x1 * x2 * (y1 * y2))))) = (1 + d * (X * X * (Y * Y))) * ((1 + d * (x1 * x2 * (y1 * y2))) * (1 - d * (x1 * x2 * (y1 * y2))) * ((1 + d * (x1 * x2 * (y1 * y2))) * (1 - d * (x1 * x2 * (y1 * y2))))) := by
 have a : (X * (1 + d * (x1 * x2 * (y1 * y2)))) * (X * (1 + d * (x1 * x2 * (y1 * y2)))) = (x1 * y2 + y1 * x2) * (x1 * y2 + y1 * x2) := by rw [hX]
 have b : (Y * (1 - d * (x1 * x2 * (y1 * y2)))) * (Y * (1 - d * (x1 * x2 * (y1 * y2)))) = (y1 * y2 + x1 * x2) * (y1 * y2 + x1 * x2) := by rw [hY]
 have key : (y1 * y2 + x1 * x2) * (y1 * y2 + x1 * x2) * ((1 + d * (x1 * x2 * (y1 * y2))) * (1 + d * (x1 * x2 * (y1 * y2)))) - (x1 * y2 + y1 * x2) * (x1 * y2 + y1 * x2) * ((1 - d * (x1 * x2 * (y1 * y2))) * (1 - d * (x1 * x2 * (y1 * y2)))) = (1 + d * (x1 * x2 * (y1 * y2))) * (1 - d * (x1 * x2 * (y1 * y2))) * ((1 + d * (x1 * x2 * (y1 * y2))) * (1 - d * (x1 * x2 * (y1 * y2)))) + d * ((x1 * y2 + y1 * x2) * (x1 * y2 + y1 * x2) * ((y1 * y2 + x1 * x2) * (y1 * y2 + x1 * x2))) := by
  clear hX hY a b
  grind
 rw [← a, ← b] at key
 clear hX hY a b h1 h2
 generalize 1 + d * (x1 * x2 * (y1 * y2)) = u at *
 generalize 1 - d * (x1 * x2 * (y1 * y2)) = v at *
 grind
def sx (p q : Pt) : Fq := (p.x * q.y + p.y * q.x) * finv (1 + dE * (p.x * q.x * (p.y * q.y)))
def sy (p q : Pt) : Fq := (p.y * q.y + p.x * q.x) * finv (1 - dE * (p.x * q.x * (p.y * q.y)))
theorem div_mul {a c : Fq} (hc : c ≠ 0) : a * finv c * c = a := by
 have h := finv_mul hc
 generalize finv c = b at *
 clear hc
 grind
theorem sx_mul (p q : Pt) : sx p q * (1 + dE * (p.x * q.x * (p.y * q.y))) = p.x * q.y + p.y * q.x := div_mul (den_plus p.on q.on)
theorem sy_mul (p q : Pt) : sy p q * (1 - dE * (p.x * q.x * (p.y * q.y))) = p.y * q.y + p.x * q.x := div_mul (den_minus p.on q.on)
theorem s_on (p q : Pt) : On (sx p q) (sy p q) := by
 have h := on_key p.on q.on (sx_mul p q) (sy_mul p q)
 have h1 := den_plus p.on q.on
 have h2 := den_minus p.on q.on
 exact fq_cancel (fq_ne (fq_ne h1 h2) (fq_ne h1 h2)) h
def Pt.add (p q : Pt) : Pt := ⟨sx p q, sy p q, s_on p q⟩
def zeroP : Pt := ⟨0, 1, by unfold On; decide +kernel⟩
theorem neg_on {x y : Fq} (h : On x y) : On (-x) y := by
 unfold On at *
 rw [nn]
 exact h
def Pt.neg (p : Pt) : Pt := ⟨-p.x, p.y, neg_on p.on⟩
theorem add_eq {p q r : Pt} (h1 : r.x * (1 + dE * (p.x * q.x * (p.y * q.y))) = p.x * q.y + p.y * q.x) (h2 : r.y * (1 - dE * (p.x * q.x * (p.y * q.y))) = p.y * q.y + p.x * q.x) : p.add q = r :=
 Pt.ext (fq_cancel (den_plus p.on q.on) ((sx_mul p q).trans h1.symm)) (fq_cancel (den_minus p.on q.on) ((sy_mul p q).trans h2.symm))
theorem c1 (d a b c e X : Fq) (h : X * (1 + d * (a * c * (b * e))) = a * e + b * c) : X * (1 + d * (c * a * (e * b))) = c * b + e * a := by grind
theorem c2 (d a b c e X : Fq) (h : X * (1 - d * (a * c * (b * e))) = b * e + a * c) : X * (1 - d * (c * a * (e * b))) = e * b + c * a := by grind
theorem add_comm' (p q : Pt) : p.add q = q.add p := (add_eq (c1 _ _ _ _ _ _ (sx_mul p q)) (c2 _ _ _ _ _ _ (sy_mul p q))).symm
theorem c3 (d a b : Fq) : a * (1 + d * (a * 0 * (b * 1))) = a * 1 + b * 0 := by grind
theorem c4 (d a b : Fq) : b * (1 - d * (a * 0 * (b * 1))) = b * 1 + a * 0 := by grind
theorem add_zero' (p : Pt) : p.add zeroP = p := add_eq (c3 _ _ _) (c4 _ _ _)
theorem c5 (d a b : Fq) : 0 * (1 + d * (a * -a * (b * b))) = a * b + b * -a := by grind
theorem c6 {d a b : Fq} (h : b * b - a * a = 1 + d * (a * a * (b * b))) : 1 * (1 - d * (a * -a * (b * b))) = b * b + a * -a := by grind
theorem add_neg' (p : Pt) : p.add p.neg = zeroP := add_eq (c5 _ _ _) (c6 p.on)
theorem as_x {d x1 y1 x2 y2 x3 y3 : Fq} (e1 : y1 * y1 - x1 * x1 = 1 + d * (x1 * x1 * (y1 * y1))) (e2 : y2 * y2 - x2 * x2 = 1 + d * (x2 * x2 * (y2 * y2))) (e3 : y3 * y3 - x3 * x3 = 1 + d * (x3 * x3 * (y3 * y3))) :
  ((x1 * y2 + y1 * x2) * (1 - d * (x1 * x2 * (y1 * y2))) * y3 + (y1 * y2 + x1 * x2) * (1 + d * (x1 * x2 * (y1 * y2))) * x3) * ((1 + d * (x2 * x3 * (y2 * y3))) * (1 - d * (x2 * x3 * (y2 * y3))) + d * ((x2 * y3 + y2 * x3) * (y2 * y3 + x2 * x3) * (x1 * y1)))
  = ((x2 * y3 + y2 * x3) * (1 - d * (x2 * x3 * (y2 * y3))) * y1 + (y2 * y3 + x2 * x3) * (1 + d * (x2 * x3 * (y2 * y3))) * x1) * ((1 + d * (x1 * x2 * (y1 * y2))) * (1 - d * (x1 * x2 * (y1 * y2))) + d * ((x1 * y2 + y1 * x2) * (y1 * y2 + x1 * x2) * (x3 * y3))) := by
 grind
theorem as_y {d x1 y1 x2 y2 x3 y3 : Fq} (e1 : y1 * y1 - x1 * x1 = 1 + d * (x1 * x1 * (y1 * y1))) (e2 : y2 * y2 - x2 * x2 = 1 + d * (x2 * x2 * (y2 * y2))) (e3 : y3 * y3 - x3 * x3 = 1 + d * (x3 * x3 * (y3 * y3))) :
  ((y1 * y2 + x1 * x2) * (1 + d * (x1 * x2 * (y1 * y2))) * y3 + (x1 * y2 + y1 * x2) * (1 - d * (x1 * x2 * (y1 * y2))) * x3) * ((1 + d * (x2 * x3 * (y2 * y3))) * (1 - d * (x2 * x3 * (y2 * y3))) - d * ((x2 * y3 + y2 * x3) * (y2 * y3 + x2 * x3) * (x1 * y1)))
  = ((y2 * y3 + x2 * x3) * (1 + d * (x2 * x3 * (y2 * y3))) * y1 + (x2 * y3 + y2 * x3) * (1 - d * (x2 * x3 * (y2 * y3))) * x1) * ((1 + d * (x1 * x2 * (y1 * y2))) * (1 - d * (x1 * x2 * (y1 * y2))) - d * ((x1 * y2 + y1 * x2) * (y1 * y2 + x1 * x2) * (x3 * y3))) := by
 grind
theorem up_x {d A B u v X Y L x3 y3 : Fq} (hX : X * u = A) (hY : Y * v = B) (hL : L * (1 + d * (X * x3 * (Y * y3))) = X * y3 + Y * x3) : L * (u * v + d * (A * B * (x3 * y3))) = A * v * y3 + B * u * x3 := by
 subst hX
 subst hY
 grind
theorem up_y {d A B u v X Y L x3 y3 : Fq} (hX : X * u = A) (hY : Y * v = B) (hL : L * (1 - d * (X * x3 * (Y * y3))) = Y * y3 + X * x3) : L * (u * v - d * (A * B * (x3 * y3))) = B * u * y3 + A * v * x3 := by
 subst hX
 subst hY
 grind
theorem up_d {d A B u v X Y x3 y3 : Fq} (hX : X * u = A) (hY : Y * v = B) : (1 + d * (X * x3 * (Y * y3))) * (u * v) = u * v + d * (A * B * (x3 * y3)) := by
 subst hX
 subst hY
 grind
theorem up_e {d A B u v X Y x3 y3 : Fq} (hX : X * u = A) (hY : Y * v = B) : (1 - d * (X * x3 * (Y * y3))) * (u * v) = u * v - d * (A * B * (x3 * y3)) := by
 subst hX
 subst hY
 grind
theorem cross {L M N K D E : Fq} (h1 : L * D = N) (h2 : M * E = K) (h3 : N * E = K * D) (hD : D ≠ 0) (hE : E ≠ 0) : L = M := by
 refine fq_cancel (fq_ne hD hE) ?_
 subst h1
 subst h2
 clear hD hE
 grind
theorem add_assoc' (p q r : Pt) : (p.add q).add r = p.add (q.add r) := by
 have a1 := sx_mul p q
 have a2 := sy_mul p q
 have b1 := sx_mul q r
 have b2 := sy_mul q r
 have d1 := fq_ne (den_plus (p.add q).on r.on) (fq_ne (den_plus p.on q.on) (den_minus p.on q.on))
 have d2 := fq_ne (den_plus (q.add r).on p.on) (fq_ne (den_plus q.on r.on) (den_minus q.on r.on))
 have f1 := fq_ne (den_minus (p.add q).on r.on) (fq_ne (den_plus p.on q.on) (den_minus p.on q.on))
 have f2 := fq_ne (den_minus (q.add r).on p.on) (fq_ne (den_plus q.on r.on) (den_minus q.on r.on))
 rw [show (p.add q).x = sx p q from rfl, show (p.add q).y = sy p q from rfl, up_d a1 a2] at d1
 rw [show (q.add r).x = sx q r from rfl, show (q.add r).y = sy q r from rfl, up_d b1 b2] at d2
 rw [show (p.add q).x = sx p q from rfl, show (p.add q).y = sy p q from rfl, up_e a1 a2] at f1
 rw [show (q.add r).x = sx q r from rfl, show (q.add r).y = sy q r from rfl, up_e b1 b2] at f2
 rw [add_comm' p (q.add r)]
 refine Pt.ext ?_ ?_
 ·exact cross (up_x a1 a2 (sx_mul (p.add q) r)) (up_x b1 b2 (sx_mul (q.add r) p)) (as_x p.on q.on r.on) d1 d2
 ·exact cross (up_y a1 a2 (sy_mul (p.add q) r)) (up_y b1 b2 (sy_mul (q.add r) p)) (as_y p.on q.on r.on) f1 f2
def Pt.mul (p : Pt) : Nat → Pt
 | 0 => zeroP
 | n + 1 => (p.mul n).add p
theorem mul_add' (p : Pt) (m : Nat) : ∀ n, p.mul (m + n) = (p.mul m).add (p.mul n)
 | 0 => (add_zero' _).symm
 | n + 1 => by
  show (p.mul (m + n)).add p = (p.mul m).add ((p.mul n).add p)
  rw [mul_add' p m n, add_assoc']
theorem zero_mul' : ∀ n, zeroP.mul n = zeroP
 | 0 => rfl
 | n + 1 => by
  show (zeroP.mul n).add zeroP = zeroP
  rw [add_zero', zero_mul' n]
theorem mul_mul' (p : Pt) (m : Nat) : ∀ n, p.mul (m * n) = (p.mul m).mul n
 | 0 => rfl
 | n + 1 => by
  show p.mul (m * n + m) = ((p.mul m).mul n).add (p.mul m)
  rw [mul_add', mul_mul' p m n]
open Go.RowKit
section
variable {P : Program} {ops : Array Oper} {md : Region.Mode} {W : World} {n m : Nat}
def HeadM (P : Program) (md : Region.Mode) (ops : Array Oper) (W : World) (n m : Nat) (L : Array Bool → Act → Prop) : Nat → Array Bool → Act → Prop
 | 0, done, a => L done a
 | f + 1, done, a => (∃ i, i < n ∧ i ∈ Region.ready md ops done) ∧ ∀ i ∈ Region.ready md ops done, (n ≤ i ∧ i < m) ∨ (i < n ∧ kOp P ops W i (HeadM P md ops W n m L f (done.setIfInBounds i true)) a)
theorem HeadM.first {i : Nat} {oi : Oper} {v : Value} {L : Array Bool → Act → Prop} (hi : ops[i]? = some oi) (hsel : ∀ (j : Nat) (o : Oper) cs b, ops[j]? = some o → o.op ≠ .select cs b)
  (hs : Region.sinkB md ops m = true) (hc : Region.chainB md ops m = true) (hn : m < ops.size) (hnm : n ≤ m) (hin : i < n) (hend : ∀ done a, L done a → ∀ j ∈ Region.ready md ops done, n ≤ j ∧ j < m) :
  ∀ (f : Nat) (done : Array Bool) (a : Act), HeadInv md ops m done →
   (∀ j oj, ops[j]? = some oj → j ≠ i → done.getD j true = false → (∀ e ∈ oj.after, Region.binds md e = true → e.on ≠ i) → oi.apart ops oj = true) →
   i ∈ Region.ready md ops done → YK P ops W oi v a → HeadM P md ops W n m L f (done.setIfInBounds i true) (a.put oi.dst v) → HeadM P md ops W n m L (f + 1) done a := by
 intro f
 induction f with
 | zero =>
  intro done a inv _ hr hy H
  refine ⟨⟨i, hin, hr⟩, fun j hj => ?_⟩
  by_cases hji : j = i
  ·subst hji
   exact .inr ⟨hin, oi, v, hi, hy, H⟩
  ·exact .inl (hend _ _ H j (ready_mono hj hji))
 | succ f ih =>
  intro done a inv hfree hr hy H
  have hun := (mem_ready.1 hr).1
  refine ⟨⟨i, hin, hr⟩, fun j hj => ?_⟩
  have hjn : j < m := Nat.lt_of_not_le fun h => tail_waits hs hc hn inv _ i rfl (by omega) hun j h hj
  by_cases hji : j = i
  ·subst hji
   exact .inr ⟨hin, oi, v, hi, hy, H⟩
  ·rcases H.2 j (ready_mono hj hji) with h0 | ⟨hjlt, oj, u, hoj, hyj, hK⟩
   ·exact .inl h0
   ·obtain ⟨hjun, oj', hoj', hall⟩ := mem_ready.1 hj
    have e : oj' = oj := Option.some.inj (hoj'.symm.trans hoj)
    subst e
    have hno : ∀ e ∈ oj'.after, Region.binds md e = true → e.on ≠ i := by
     intro e he hb heq
     have h1 := hall e he hb
     rw [heq, getD_both hun] at h1
     cases h1
    obtain ⟨h1, h2, h3⟩ := Oper.apart_spec (hfree j oj' hoj hji hjun hno)
    have hyj' : YK P ops W oj' u a := hyj.same (execOp_put oj' (fun cs b => hsel j oj' cs b hoj) a oi.dst v h1).symm (wanted_put oj' a oi.dst v h1).symm
    have hyi' : YK P ops W oi v (a.put oj'.dst u) := hy.same (execOp_put oi (fun cs b => hsel i oi cs b hi) a oj'.dst u h3) (wanted_put oi a oj'.dst u h3)
    refine .inr ⟨hjlt, oj', u, hoj, hyj', ih (done.setIfInBounds j true) _ (inv.set hj hjn) ?_ (ready_mono hr (Ne.symm hji)) hyi' ?_⟩
    ·intro k ok hk hki hku hkn
     refine hfree k ok hk hki ?_ hkn
     by_cases hjk : j = k
     ·subst hjk
      exact hjun
     ·rw [getD_set_ne true hjk] at hku
      exact hku
    ·rw [Array.setIfInBounds_comm _ _ hji, ← Act.put_comm a v u h2]
     exact hK
theorem HeadM.lex {g : Nat} {K : Act → Prop} (hsel : Region.noSelect ops = true) (hs : Region.sinkB md ops m = true) (hc : Region.chainB md ops m = true) (hn : m < ops.size) (hnm : n ≤ m) (l : List Oper) :
  ∀ (k : Nat) (done : Array Bool) (a : Act), (∀ j, j < l.length → l[j]? = ops[k + j]?) → k + l.length = n → HeadInv md ops m done →
  lexM md ops g n m l.length k done = true → wpK P ops W K l a → HeadM P md ops W n m (fun d a' => (Region.ready md ops d = List.range' n (m - n) ∧ Region.seqB md ops g m (setR n m d) = true) ∧ K a') l.length done a := by
 induction l with
 | nil =>
  intro k done a _ hk _ hB h
  simp only [List.length_nil, lexM, Bool.and_eq_true, decide_eq_true_eq] at hB
  exact ⟨hB, h⟩
 | cons o l ih =>
  intro k done a hl hk inv hB h
  have h0 : ops[k]? = some o := by simpa using (hl 0 (by simp)).symm
  simp only [List.length_cons, lexM, Bool.and_eq_true] at hB
  simp only [List.length_cons] at hk
  have hr : k ∈ Region.ready md ops done := by simpa using hB.1.1
  obtain ⟨v, hy, hK⟩ := wpK_yields h
  refine HeadM.first h0 (Region.noSelect_spec hsel) hs hc hn hnm (by omega) (fun d a' hL j hj => ?_) l.length done a inv (Region.free_spec h0 hB.1.2) hr hy ?_
  ·rw [hL.1.1, List.mem_range'_1] at hj
   omega
  ·refine ih (k + 1) _ _ (fun j hj => ?_) (by omega) (inv.set hr (by omega)) hB.2 hK
   have := hl (j + 1) (by simp; omega)
   simpa [Nat.add_assoc, Nat.add_comm 1 j] using this
def putE (ds : Nat → Option Tmp) (E : List (Nat × Nat)) (a : Act) : Act := E.foldl (fun a p => a.put (ds p.1) (.pointer (some ⟨p.2, 0, none⟩))) a
theorem putE_snoc (ds : Nat → Option Tmp) (E : List (Nat × Nat)) (i g : Nat) (a : Act) : putE ds (E ++ [(i, g)]) a = (putE ds E a).put (ds i) (.pointer (some ⟨g, 0, none⟩)) := by
 simp [putE, List.foldl_append]
theorem putE_put (ds : Nat → Option Tmp) (E : List (Nat × Nat)) (d : Option Tmp) (v : Value) (h : ∀ p ∈ E, ∀ t, d = some t → ds p.1 ≠ some t) : ∀ a, (putE ds E a).put d v = putE ds E (a.put d v) := by
 induction E with
 | nil => intro a; rfl
 | cons p E ih =>
  intro a
  show (putE ds E (a.put (ds p.1) (.pointer (some ⟨p.2, 0, none⟩)))).put d v = putE ds E ((a.put d v).put (ds p.1) (.pointer (some ⟨p.2, 0, none⟩)))
  rw [ih (fun q hq => h q (List.mem_cons_of_mem _ hq)), Act.put_comm a v (.pointer (some ⟨p.2, 0, none⟩)) (h p List.mem_cons_self)]
theorem HeadM.any {g : Nat} {L : Array Bool → Act → Prop} {Q : Exit → Act → World → Prop} {ds : Nat → Option Tmp} {Zs : Nat → Obj}
  (hsel : Region.noSelect ops = true) (hs : Region.sinkB md ops m = true) (hc : Region.chainB md ops m = true) (hn : m < ops.size) (hnm : n ≤ m) (hfr : freeM md ops n m = true)
  (hA : ∀ j, n ≤ j → j < m → ∃ o, ops[j]? = some o ∧ o.dst = ds j ∧ o.guard = none ∧ ∀ a w, (execOp (Act.eval a) o).run P w = .ok (.value (.pointer (some ⟨w.heap.size, 0, none⟩))) (w.alloc (Zs j)))
  (hend : ∀ done a, L done a → Region.ready md ops done = List.range' n (m - n))
  (hL : ∀ done a, L done a → ∀ E w, (E.map Prod.fst).Nodup → (∀ p ∈ E, n ≤ p.1 ∧ p.1 < m) → E.length = m - n → KE W Zs E w → wpAny P md ops Q g (doneE E done) (putE ds E a) w) :
  ∀ (N f : Nat) (E : List (Nat × Nat)) (done : Array Bool) (a : Act) (w : World), N + E.length = f + (m - n) → (E.map Prod.fst).Nodup → (∀ p ∈ E, n ≤ p.1 ∧ p.1 < m) → E.length ≤ m - n → done.size = ops.size → HeadInv md ops m (doneE E done) →
   HeadM P md ops W n m L f done a → KE W Zs E w → wpAny P md ops Q (N + g) (doneE E done) (putE ds E a) w := by
 have hap : ∀ (i j : Nat), i < m → n ≤ j → j < m → i ≠ j → Region.waitsFor md ops i j = false ∧ ∀ o p, ops[i]? = some o → ops[j]? = some p → o.apart ops p = true := by
  intro i j hi hj1 hj2 hij
  have h1 := List.all_eq_true.1 hfr i (List.mem_range.2 hi)
  have h2 := List.all_eq_true.1 h1 j (List.mem_range'_1.2 ⟨hj1, by omega⟩)
  simp only [Bool.or_eq_true, decide_eq_true_eq, Bool.and_eq_true, Bool.not_eq_true'] at h2
  rcases h2 with h2 | h2
  ·exact absurd h2 hij
  ·refine ⟨h2.1, fun o p ho hp => ?_⟩
   have h3 := h2.2
   rw [ho, hp] at h3
   exact h3
 intro N
 induction N with
 | zero =>
  intro f E done a w hN hnd hin hlen hsz inv hH hK
  have hf : f = 0 := by omega
  subst hf
  rw [Nat.zero_add]
  exact hL done a hH E w hnd hin (by omega) hK
 | succ N ih =>
  intro f E done a w hN hnd hin hlen hsz inv hH hK
  rw [show N + 1 + g = (N + g) + 1 by omega]
  -- something below m comes up
  have hsome : ∃ i, i < m ∧ i ∈ Region.ready md ops (doneE E done) := by
   cases f with
   | succ f =>
    obtain ⟨⟨i, hi, hr⟩, _⟩ := hH
    exact ⟨i, by omega, ready_doneE E i (fun p hp he => by have := (hin p hp).1; omega) done hr⟩
   | zero =>
    have hr := hend done a hH
    have hex : ∃ j, n ≤ j ∧ j < m ∧ ∀ p ∈ E, p.1 ≠ j := by
     refine Classical.byContradiction fun hno => ?_
     have hall : ∀ j, n ≤ j → j < m → j ∈ E.map Prod.fst := by
      intro j h1 h2
      refine Classical.byContradiction fun hj => hno ⟨j, h1, h2, fun p hp he => hj (List.mem_map.2 ⟨p, hp, he⟩)⟩
     have hsub : List.range' n (m - n) ⊆ E.map Prod.fst := fun j hj => by
      rw [List.mem_range'_1] at hj
      exact hall j hj.1 (by omega)
     have hle := (List.nodup_range' (s := n) (n := m - n)).length_le_of_subset hsub
     simp at hle
     omega
    obtain ⟨j, h1, h2, h3⟩ := hex
    refine ⟨j, h2, ready_doneE E j h3 done ?_⟩
    rw [hr, List.mem_range'_1]
    omega
  obtain ⟨i0, hi0, hr0⟩ := hsome
  refine ⟨fun h0 => (by rw [h0] at hr0; cases hr0), fun i hi => ?_⟩
  have him : i < m := Nat.lt_of_not_le fun h => tail_waits hs hc hn inv _ i0 rfl hi0 (mem_ready.1 hr0).1 i h hi
  have hiE : ∀ p ∈ E, p.1 ≠ i := by
   intro p hp he
   have h1 := doneE_true E done (fun q hq => by have := (hin q hq).2; omega) p hp
   rw [he, (mem_ready.1 hi).1] at h1
   cases h1
  by_cases hni : n ≤ i
  ·-- a variable is made
   obtain ⟨o, ho, hd, hg, hrun⟩ := hA i hni him
   unfold wpOp
   have hw : Region.wanted o (yielded ops (putE ds E a).tmps) = true := by simp [Region.wanted, hg]
   simp only [ho, hw, if_true]
   refine .inl ?_
   unfold Oper.wp
   rw [hrun]
   simp only [Oper.upon]
   rw [hd, ← putE_snoc, ← doneE_snoc]
   refine ih f (E ++ [(i, w.heap.size)]) done a _ (by simp; omega) ?_ ?_ ?_ hsz ?_ hH (hK.more i)
   ·rw [List.map_append, List.nodup_append]
    refine ⟨hnd, by simp, fun x hx y hy e => ?_⟩
    simp only [List.map_cons, List.map_nil, List.mem_singleton] at hy
    obtain ⟨p, hp, hpe⟩ := List.mem_map.1 hx
    exact hiE p hp (by omega)
   ·intro p hp
    rcases List.mem_append.1 hp with hp | hp
    ·exact hin p hp
    ·rw [List.mem_singleton.1 hp]
     exact ⟨hni, him⟩
   ·cases f with
    | zero => simp; omega
    | succ f =>
     simp only [List.length_append, List.length_cons, List.length_nil]
     refine Nat.lt_of_not_le fun hle => ?_
     have hlen2 : E.length = m - n := by omega
     have hsub : E.map Prod.fst ⊆ List.range' n (m - n) := fun x hx => by
      obtain ⟨p, hp, hpe⟩ := List.mem_map.1 hx
      have := hin p hp
      rw [List.mem_range'_1]
      omega
     have hmem : i ∈ E.map Prod.fst := by
      refine Classical.byContradiction fun hni2 => ?_
      have hnd2 : (i :: E.map Prod.fst).Nodup := List.nodup_cons.2 ⟨hni2, hnd⟩
      have hsub2 : (i :: E.map Prod.fst) ⊆ List.range' n (m - n) := fun x hx => by
       rcases List.mem_cons.1 hx with rfl | hx
       ·rw [List.mem_range'_1]
        omega
       ·exact hsub hx
      have := hnd2.length_le_of_subset hsub2
      simp at this
      omega
     obtain ⟨p, hp, hpe⟩ := List.mem_map.1 hmem
     exact hiE p hp hpe
   ·rw [doneE_snoc]
    exact inv.set hi him
  ·-- an operation of the head
   obtain ⟨hiun, oi, hoi, hie⟩ := mem_ready.1 hi
   have hrd : i ∈ Region.ready md ops done := by
    rw [mem_ready]
    rw [doneE_getD E i true hiE] at hiun
    refine ⟨hiun, oi, hoi, fun e he hb => ?_⟩
    have h1 := hie e he hb
    rwa [doneE_getD E e.on false (fun p hp heq => waits_of hoi (hap i p.1 him (hin p hp).1 (hin p hp).2 (by have := (hin p hp).1; omega)).1 e he hb heq.symm)] at h1
   cases f with
   | zero =>
    rw [hend done a hH, List.mem_range'_1] at hrd
    omega
   | succ f =>
    rcases hH.2 i hrd with h0 | ⟨hlt, o, v, ho, hy, hKK⟩
    ·omega
    ·have eo : o = oi := Option.some.inj (ho.symm.trans hoi)
     subst eo
     have hso : ∀ cs b, o.op ≠ .select cs b := fun cs b => Region.noSelect_spec hsel i o cs b ho
     have hapE : ∀ p ∈ E, (∀ d, ds p.1 = some d → d ∉ o.looksAt ops) ∧ (∀ t, o.dst = some t → ds p.1 ≠ some t) := by
      intro p hp
      obtain ⟨q, hq, hqd, _⟩ := hA p.1 (hin p hp).1 (hin p hp).2
      have h4 := Oper.apart_spec ((hap i p.1 him (hin p hp).1 (hin p hp).2 (by have := (hin p hp).1; omega)).2 o q ho hq)
      rw [hqd] at h4
      exact ⟨h4.2.2, h4.2.1⟩
     have hyE : ∀ (E' : List (Nat × Nat)) (b : Act), (∀ p ∈ E', ∀ d, ds p.1 = some d → d ∉ o.looksAt ops) → YK P ops W o v b → YK P ops W o v (putE ds E' b) := by
      intro E'
      induction E' with
      | nil => intro b _ h; exact h
      | cons p E' ih2 =>
       intro b hb h
       exact ih2 _ (fun q hq => hb q (List.mem_cons_of_mem _ hq)) (h.same (execOp_put o hso b _ _ (hb p List.mem_cons_self)) (wanted_put o b _ _ (hb p List.mem_cons_self)))
     have hy' := hyE E a (fun p hp => (hapE p hp).1) hy
     -- the step itself
     have hstep : wpOp P ops Q i (wpAny P md ops Q (N + g) ((doneE E done).setIfInBounds i true)) (putE ds E a) w := by
      unfold Go.wpOp
      simp only [ho]
      have hnext : ∀ w', Below w.heap.size w w' → wpAny P md ops Q (N + g) ((doneE E done).setIfInBounds i true) ((putE ds E a).put o.dst v) w' := by
       intro w' hb
       rw [doneE_set E i hiE, putE_put ds E o.dst v (fun p hp => (hapE p hp).2)]
       refine ih f E (done.setIfInBounds i true) (a.put o.dst v) w' (by omega) hnd hin hlen (by simpa using hsz) ?_ hKK (hK.next hb)
       rw [← doneE_set E i hiE]
       exact inv.set hi him
      rcases hy' with ⟨hw, hv⟩ | ⟨hw, rfl⟩
      ·rw [if_pos hw]
       refine .inl ?_
       have hk := hv ⟨w, hK.keep⟩
       unfold keepAt at hk
       unfold Oper.wp
       simp only at hk
       generalize (execOp (putE ds E a).eval o).run P w = r at *
       cases r with
       | ok x w' =>
        cases x <;> simp only [keepUpon] at hk <;> simp only [Oper.upon]
        case value u =>
         obtain ⟨e1, e2⟩ := hk
         rw [e1, e2]
         exact hnext w (Below.refl _ _)
        case skip =>
         obtain ⟨e1, e2⟩ := hk
         rw [e1, ← e2]
         exact hnext w (Below.refl _ _)
        case enter f args =>
         obtain ⟨e1, hcl⟩ := hk
         rw [e1]
         exact hcl.mono fun e w'' ⟨he, hb⟩ => by subst he; exact hnext w'' hb
       | halt x w' => simp only [keepUpon] at hk
      ·rw [if_neg (by rw [hw]; exact Bool.false_ne_true)]
       exact hnext w (Below.refl _ _)
     exact hstep
theorem two_of {E : List (Nat × Nat)} (hl : E.length = 2) (hnd : (E.map Prod.fst).Nodup) (hin : ∀ p ∈ E, n ≤ p.1 ∧ p.1 < n + 2) : ∃ b c, E = [(n, b), (n + 1, c)] ∨ E = [(n + 1, c), (n, b)] := by
 match E, hl with
 | [p, q], _ =>
  have hp := hin p (by simp)
  have hq := hin q (by simp)
  have hne : p.1 ≠ q.1 := by
   intro e
   simp [e] at hnd
  obtain ⟨p1, p2⟩ := p
  obtain ⟨q1, q2⟩ := q
  simp only at hp hq hne
  by_cases h : p1 = n
  ·have h2 : q1 = n + 1 := by omega
   subst h
   subst h2
   exact ⟨p2, q2, .inl rfl⟩
  ·have h1 : p1 = n + 1 := by omega
   have h2 : q1 = n := by omega
   subst h1
   subst h2
   exact ⟨q2, p2, .inr rfl⟩
def Tail2 (P : Program) (l : List Oper) (Q : Exit → Act → World → Prop) (n : Nat) (W : World) (Z Y : Obj) (om op : Oper) (a' : Act) : Prop := ∀ (w1 : World) (b c : Nat), Below W.heap.size W w1 → W.heap.size ≤ b → W.heap.size ≤ c → b ≠ c → w1.heap[b]? = some Z → w1.heap[c]? = some Y → ∀ a2, a2 = (a'.put om.dst (.pointer (some ⟨b, 0, none⟩))).put op.dst (.pointer (some ⟨c, 0, none⟩)) → wpList P l.toArray Q (l.drop (n + 2)) a2 w1
theorem wp_region_keep_alloc2 {id : Nat} {Q : Exit → Act → World → Prop} {a : Act} {l : List Oper} {om op : Oper} {Z Y : Obj} (n : Nat) (hm : P.follows .mixedOrders = true) (hB : lexAllocsB .any l.toArray n (n + 2) = true)
  (hom : l.toArray[n]? = some om) (hop : l.toArray[n + 1]? = some op) (hg : om.guard = none) (hg2 : op.guard = none)
  (hrun : ∀ a w, (execOp (Act.eval a) om).run P w = .ok (.value (.pointer (some ⟨w.heap.size, 0, none⟩))) (w.alloc Z))
  (hrun2 : ∀ a w, (execOp (Act.eval a) op).run P w = .ok (.value (.pointer (some ⟨w.heap.size, 0, none⟩))) (w.alloc Y))
  (h : wpK P l.toArray W (Tail2 P l Q n W Z Y om op) (l.take n) a) :
  (Code.region id l.toArray true).wp P Q a W := by
 simp only [lexAllocsB, Bool.and_eq_true, decide_eq_true_eq] at hB
 obtain ⟨⟨⟨⟨⟨⟨hsel, hn⟩, hnm⟩, hs⟩, hc⟩, hfr⟩, hlex⟩ := hB
 have hn' : n + 2 < l.length := by simpa using hn
 have htl : (l.take n).length = n := by simp; omega
 have hdl : (l.drop (n + 2)).length = l.toArray.size - (n + 2) := by simp
 have inv : HeadInv .any l.toArray (n + 2) (Array.replicate l.toArray.size false) :=
  ⟨by simp, fun j oj _ hl => (by rw [getD_replicate_false] at hl; cases hl), fun t _ ht => getD_in (by simpa using ht) (getD_replicate_false _ _)⟩
 have H := HeadM.lex (md := .any) (g := l.toArray.size - (n + 2)) hsel hs hc hn hnm (l.take n) 0 _ a (fun j hj => by rw [htl] at hj; simp [hj]) (by simpa using htl) inv (by rw [htl]; exact hlex) h
 refine wp_region_any hm ?_
 have hapart : om.apart l.toArray op = true := by
  have h1 := List.all_eq_true.1 hfr n (List.mem_range.2 (by omega))
  have h2 := List.all_eq_true.1 h1 (n + 1) (List.mem_range'_1.2 ⟨by omega, by omega⟩)
  simp only [hom, hop, Bool.or_eq_true, decide_eq_true_eq, Bool.and_eq_true, Bool.not_eq_true'] at h2
  rcases h2 with h2 | h2
  ·omega
  ·exact h2.2
 have hcomm := (Oper.apart_spec hapart).2.1
 have H2 := HeadM.any (Q := Q) (g := l.toArray.size - (n + 2)) (L := fun d a' => (Region.ready .any l.toArray d = List.range' n (n + 2 - n) ∧ Region.seqB .any l.toArray (l.toArray.size - (n + 2)) (n + 2) (setR n (n + 2) d) = true) ∧ Tail2 P l Q n W Z Y om op a') (ds := fun j => if j = n then om.dst else op.dst) (Zs := fun j => if j = n then Z else Y) hsel hs hc hn hnm hfr
  (fun j h1 h2 => by
   by_cases hj : j = n
   ·subst hj
    exact ⟨om, hom, by simp, hg, by simpa using hrun⟩
   ·have hj2 : j = n + 1 := by omega
    subst hj2
    exact ⟨op, hop, by simp, hg2, by simpa using hrun2⟩)
  (fun d a' hL => by simpa using hL.1.1)
  (fun d a' hL E w1 hnd hin hlen hK => by
   have hset : setR n (n + 2) d = (d.setIfInBounds n true).setIfInBounds (n + 1) true := by
    simp [setR, List.range']
   have hseq := hL.1.2
   rw [hset] at hseq
   obtain ⟨b, c, hE⟩ := two_of (n := n) (by omega) hnd (by simpa using hin)
   have hmb : (n, b) ∈ E := by rcases hE with rfl | rfl <;> simp
   have hmc : (n + 1, c) ∈ E := by rcases hE with rfl | rfl <;> simp
   have hbc : b ≠ c := by
    have := hK.nodup
    rcases hE with rfl | rfl <;> simp at this <;> omega
   have hb := hK.at_ _ hmb
   have hcc := hK.at_ _ hmc
   simp only [if_pos] at hb
   simp only [show ¬ n + 1 = n by omega, if_false] at hcc
   have htail := hL.2 w1 b c hK.keep (hK.ge _ hmb) (hK.ge _ hmc) hbc hb hcc _ rfl
   have hgo := wpAny_of_seq (md := .any) (Q' := Q) (l.drop (n + 2)) (n + 2) _ _ w1 (fun j => by simp [List.getElem?_drop]) (by rw [hdl]; exact hseq) htail
   rw [hdl] at hgo
   have e1 : doneE E d = (d.setIfInBounds n true).setIfInBounds (n + 1) true := by
    rcases hE with rfl | rfl
    ·simp [doneE]
    ·simp only [doneE, List.foldl_cons, List.foldl_nil]
     rw [Array.setIfInBounds_comm _ _ (by omega)]
   have e2 : putE (fun j => if j = n then om.dst else op.dst) E a' = (a'.put om.dst (.pointer (some ⟨b, 0, none⟩))).put op.dst (.pointer (some ⟨c, 0, none⟩)) := by
    rcases hE with rfl | rfl
    ·simp [putE]
    ·simp only [putE, List.foldl_cons, List.foldl_nil, show ¬ n + 1 = n by omega, if_false, if_true]
     rw [Act.put_comm a' _ _ hcomm]
   rw [e1, e2]
   exact hgo)
  (n + 2) n [] (Array.replicate l.toArray.size false) a W.drew (by simp) (by simp) (by simp) (by simp) (by simp) inv (by simpa [htl] using H) ⟨(Below.refl _ _).drew, by simp, by simp, by simp, by simp⟩
 rw [show n + 2 + (l.toArray.size - (n + 2)) = l.toArray.size by omega] at H2
 exact H2
end
end Go.Proofs.YtffimigpbcilbaaGreatDoor.Mon
