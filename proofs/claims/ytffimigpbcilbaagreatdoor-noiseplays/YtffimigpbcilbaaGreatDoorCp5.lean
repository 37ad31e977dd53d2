/- Part 5 of the walks and facts. -/
import Derived.Test.YtffimigpbcilbaaGreatDoorCpDef
import Derived.Test.YtffimigpbcilbaaGreatDoorCp4
set_option maxHeartbeats 16000000
set_option maxRecDepth 100000
namespace Go.Proofs.YtffimigpbcilbaaGreatDoor.Mon
open Go.RowKit
section
variable {P : Program} {ops : Array Oper} {md : Region.Mode} {C : World → Prop}
def KW.next {W : World} (s : KW W) (w' : World) (h : Below s.w.heap.size s.w w') : KW W := ⟨w', s.keep.trans (h.mono s.keep.size)⟩
theorem KW.drew (W : World) : ∃ s : KW W, ({ W with drawn := W.drawn + 1 } : World) = s.w := ⟨⟨W.drew, (Below.refl _ _).drew⟩, rfl⟩
theorem keep_of {W : World} {s : KW W} {f : FuncId} {args : Array Value} {v : Value}
  (h : Calls P f args s.w fun e w' => e = .returned v ∧ Below s.w.heap.size s.w w') : Calls P f args s.w fun e w'' => e = .returned v ∧ ∃ t : KW W, w'' = t.w :=
 h.mono fun _ w' ⟨he, hb⟩ => ⟨he, s.next w' hb, rfl⟩
theorem wp_region_keep {id : Nat} {Q : Exit → Act → World → Prop} {a : Act} {w : World} {l : List Oper} (hm : P.follows .mixedOrders = true) (hB : Region.lexB .any l.toArray = true)
  (h : wpQuiet P l.toArray (fun w' => ∃ s : KW w, w' = s.w) (fun a' => ∀ s : KW w, Q .normal a' s.w) l a) : (Code.region id l.toArray true).wp P Q a w := by
 refine wp_region_quiet (C := fun w' => ∃ s : KW w, w' = s.w) hm hB (KW.drew w) ?_
 have e : (fun a' => ∀ w', (∃ s : KW w, w' = s.w) → Q .normal a' w') = fun a' => ∀ s : KW w, Q .normal a' s.w := by
  funext a'
  exact propext ⟨fun h s => h _ ⟨s, rfl⟩, fun h w' ⟨s, hs⟩ => hs ▸ h s⟩
 rw [e]
 exact h
theorem wp_region_keep_tail {id : Nat} {Q : Exit → Act → World → Prop} {a : Act} {w : World} {l : List Oper} (n : Nat) (hm : P.follows .mixedOrders = true) (hB : Region.lexTailB .any l.toArray n = true)
  (h : wpQuiet P l.toArray (fun w' => ∃ s : KW w, w' = s.w) (fun a' => ∀ s : KW w, wpList P l.toArray Q (l.drop n) a' s.w) (l.take n) a) : (Code.region id l.toArray true).wp P Q a w := by
 refine wp_region_quiet_tail (C := fun w' => ∃ s : KW w, w' = s.w) n hm hB (KW.drew w) ?_
 have e : (fun a' => ∀ w', (∃ s : KW w, w' = s.w) → wpList P l.toArray Q (l.drop n) a' w') = fun a' => ∀ s : KW w, wpList P l.toArray Q (l.drop n) a' s.w := by
  funext a'
  exact propext ⟨fun h s => h _ ⟨s, rfl⟩, fun h w' ⟨s, hs⟩ => hs ▸ h s⟩
 rw [e]
 exact h
end
open Go.RowKit
theorem hide {p : Prop} (h : p) : Hid p := h
def Pm : Int := 57896044618658097711785492504343953926634992332820282019728792003956564819949
def Cg (x y : Int) : Prop := ∃ k : Int, x = y + k * Pm
theorem Cg.refl (x : Int) : Cg x x := ⟨0, by omega⟩
theorem Cg.of_eq {x y : Int} (h : x = y) : Cg x y := ⟨0, by omega⟩
theorem Cg.symm {x y : Int} (h : Cg x y) : Cg y x := by
 obtain ⟨k, h⟩ := h
 exact ⟨-k, by rw [h, Int.neg_mul]; omega⟩
theorem Cg.trans {x y z : Int} (h : Cg x y) (g : Cg y z) : Cg x z := by
 obtain ⟨k, h⟩ := h
 obtain ⟨l, g⟩ := g
 exact ⟨k + l, by rw [h, g, Int.add_mul]; omega⟩
theorem Cg.add {x y u v : Int} (h : Cg x y) (g : Cg u v) : Cg (x + u) (y + v) := by
 obtain ⟨k, h⟩ := h
 obtain ⟨l, g⟩ := g
 exact ⟨k + l, by rw [h, g, Int.add_mul]; omega⟩
theorem Cg.neg {x y : Int} (h : Cg x y) : Cg (-x) (-y) := by
 obtain ⟨k, h⟩ := h
 exact ⟨-k, by rw [h, Int.neg_mul]; omega⟩
theorem Cg.sub {x y u v : Int} (h : Cg x y) (g : Cg u v) : Cg (x - u) (y - v) := by
 have := h.add g.neg
 simpa [Int.sub_eq_add_neg] using this
theorem Cg.mul {x y u v : Int} (h : Cg x y) (g : Cg u v) : Cg (x * u) (y * v) := by
 obtain ⟨k, h⟩ := h
 obtain ⟨l, g⟩ := g
 refine ⟨y * l + k * v + k * l * Pm, ?_⟩
 rw [h, g]
 simp only [Int.add_mul, Int.mul_add, Int.mul_assoc, Int.mul_comm Pm, Int.mul_left_comm]
 have e : k * (Pm * v) = k * (v * Pm) := by rw [Int.mul_comm Pm]
 omega
theorem Cg.emod {x y : Int} (h : Cg x y) : x % Pm = y % Pm := by
 obtain ⟨k, h⟩ := h
 rw [h, Int.add_mul_emod_self_right]
theorem Cg.of_emod {x y : Int} (h : x % Pm = y % Pm) : Cg x y := by
 refine ⟨x / Pm - y / Pm, ?_⟩
 have a := Int.mul_ediv_add_emod x Pm
 have b := Int.mul_ediv_add_emod y Pm
 rw [Int.sub_mul, Int.mul_comm (x / Pm), Int.mul_comm (y / Pm)]
 omega
theorem cg_emod (x : Int) : Cg (x % Pm) x := Cg.of_emod (Int.emod_emod_of_dvd x (Int.dvd_refl _))
theorem Cg.sub_P (x k : Int) : Cg (x - k * Pm) x := ⟨-k, by rw [Int.neg_mul]; omega⟩
structure E5 where
 a : Int
 b : Int
 c : Int
 d : Int
 e : Int
abbrev E5.v (x : E5) : Value := .agg #[.int .u64 x.a, .int .u64 x.b, .int .u64 x.c, .int .u64 x.d, .int .u64 x.e]
def E5.n (x : E5) : Int := x.a + 2251799813685248 * x.b + 5070602400912917605986812821504 * x.c + 11417981541647679048466287755595961091061972992 * x.d + 25711008708143844408671393477458601640355247900524685364822016 * x.e
structure E5.Ok (x : E5) : Prop where
 a0 : 0 ≤ x.a
 a1 : x.a ≤ 2251799813840876
 b0 : 0 ≤ x.b
 b1 : x.b ≤ 2251799813840876
 c0 : 0 ≤ x.c
 c1 : x.c ≤ 2251799813840876
 d0 : 0 ≤ x.d
 d1 : x.d ≤ 2251799813840876
 e0 : 0 ≤ x.e
 e1 : x.e ≤ 2251799813840876
def W64 (x : Int) : Prop := 0 ≤ x ∧ x < 18446744073709551616
theorem and51 {x : Int} (h : W64 x) : bits .and .u64 x 2251799813685247 = x % 2251799813685248 := by
 rw [u64_and x _ h.1 h.2 (by decide) (by decide)]
 have e : (2251799813685247 : Int).toNat = 2251799813685247 := by decide
 rw [e, nat_mask51]
 have := h.1
 omega
theorem wrap64u {x : Int} (h : W64 x) : IntKind.u64.wrap x = x := by
 rw [IntKind.wrap_u64]
 exact Int.emod_eq_of_lt h.1 h.2
theorem or_join (i K : Nat) (hK : K = 2 ^ i) {x y : Int} (hx : W64 x) (hy : W64 y) (h1 : x % (K : Int) = 0) (h2 : y < (K : Int)) : bits .or .u64 x y = x + y := by
 rw [u64_or x y hx.1 hx.2 hy.1 hy.2]
 have a := hx.1
 have b := hy.1
 obtain ⟨X, rfl⟩ := Int.eq_ofNat_of_zero_le a
 obtain ⟨Y, rfl⟩ := Int.eq_ofNat_of_zero_le b
 simp only [Int.toNat_natCast]
 have h1' : X % K = 0 := by exact_mod_cast h1
 have h2' : Y < K := by omega
 subst hK
 rw [nat_join i X Y h1' h2']
 omega
theorem or_join' (i K : Nat) (hK : K = 2 ^ i) {x y : Int} (hx : W64 x) (hy : W64 y) (h1 : y % (K : Int) = 0) (h2 : x < (K : Int)) : bits .or .u64 x y = x + y := by
 rw [u64_or x y hx.1 hx.2 hy.1 hy.2]
 have a := hx.1
 have b := hy.1
 obtain ⟨X, rfl⟩ := Int.eq_ofNat_of_zero_le a
 obtain ⟨Y, rfl⟩ := Int.eq_ofNat_of_zero_le b
 simp only [Int.toNat_natCast]
 have h1' : Y % K = 0 := by exact_mod_cast h1
 have h2' : X < K := by omega
 subst hK
 rw [Nat.or_comm, nat_join i Y X h1' h2']
 omega
def car (a b c d e : Int) : E5 := ⟨a % 2251799813685248 + e / 2251799813685248 * 19, b % 2251799813685248 + a / 2251799813685248, c % 2251799813685248 + b / 2251799813685248, d % 2251799813685248 + c / 2251799813685248, e % 2251799813685248 + d / 2251799813685248⟩
theorem car_ok {a b c d e : Int} (ha : W64 a) (hb : W64 b) (hc : W64 c) (hd : W64 d) (he : W64 e) : (car a b c d e).Ok := by
 unfold W64 at *
 constructor <;> simp only [car] <;> omega
theorem car_n (a b c d e : Int) : Cg (car a b c d e).n (E5.n ⟨a, b, c, d, e⟩) := by
 refine ⟨- (e / 2251799813685248), ?_⟩
 simp only [car, E5.n, Pm]
 omega
def addF (x y : E5) : E5 := car (x.a + y.a) (x.b + y.b) (x.c + y.c) (x.d + y.d) (x.e + y.e)
def subF (x y : E5) : E5 := car (x.a + 4503599627370458 - y.a) (x.b + 4503599627370494 - y.b) (x.c + 4503599627370494 - y.c) (x.d + 4503599627370494 - y.d) (x.e + 4503599627370494 - y.e)
def zeroE : E5 := ⟨0, 0, 0, 0, 0⟩
def smallF (n : Int) : E5 := car n 0 0 0 0
theorem zeroE_ok : zeroE.Ok := ⟨by decide, by decide, by decide, by decide, by decide, by decide, by decide, by decide, by decide, by decide⟩
theorem zeroE_n : zeroE.n = 0 := by decide
theorem addF_ok {x y : E5} (hx : x.Ok) (hy : y.Ok) : (addF x y).Ok := by
 obtain ⟨a0, a1, b0, b1, c0, c1, d0, d1, e0, e1⟩ := hx
 obtain ⟨f0, f1, g0, g1, h0, h1, i0, i1, j0, j1⟩ := hy
 exact car_ok ⟨by omega, by omega⟩ ⟨by omega, by omega⟩ ⟨by omega, by omega⟩ ⟨by omega, by omega⟩ ⟨by omega, by omega⟩
theorem addF_n (x y : E5) : Cg (addF x y).n (x.n + y.n) := (car_n _ _ _ _ _).trans (Cg.of_eq (by simp only [E5.n]; omega))
theorem subF_ok {x y : E5} (hx : x.Ok) (hy : y.Ok) : (subF x y).Ok := by
 obtain ⟨a0, a1, b0, b1, c0, c1, d0, d1, e0, e1⟩ := hx
 obtain ⟨f0, f1, g0, g1, h0, h1, i0, i1, j0, j1⟩ := hy
 exact car_ok ⟨by omega, by omega⟩ ⟨by omega, by omega⟩ ⟨by omega, by omega⟩ ⟨by omega, by omega⟩ ⟨by omega, by omega⟩
theorem subF_n (x y : E5) : Cg (subF x y).n (x.n - y.n) := (car_n _ _ _ _ _).trans ⟨2, by simp only [E5.n, Pm]; omega⟩
theorem smallF_ok {n : Int} (h0 : 0 ≤ n) (h1 : n < 4294967296) : (smallF n).Ok := car_ok ⟨by omega, by omega⟩ ⟨by decide, by decide⟩ ⟨by decide, by decide⟩ ⟨by decide, by decide⟩ ⟨by decide, by decide⟩
theorem smallF_n (n : Int) : Cg (smallF n).n n := (car_n _ _ _ _ _).trans (Cg.of_eq (by simp only [E5.n]; omega))
def m0 (x y : E5) : Int := x.a * y.a + x.b * (y.e * 19) + x.c * (y.d * 19) + x.d * (y.c * 19) + x.e * (y.b * 19)
def m1 (x y : E5) : Int := x.a * y.b + x.b * y.a + x.c * (y.e * 19) + x.d * (y.d * 19) + x.e * (y.c * 19)
def m2 (x y : E5) : Int := x.a * y.c + x.b * y.b + x.c * y.a + x.d * (y.e * 19) + x.e * (y.d * 19)
def m3 (x y : E5) : Int := x.a * y.d + x.b * y.c + x.c * y.b + x.d * y.a + x.e * (y.e * 19)
def m4 (x y : E5) : Int := x.a * y.e + x.b * y.d + x.c * y.c + x.d * y.b + x.e * y.a
def mulF (x y : E5) : E5 := car (m0 x y % 2251799813685248 + m4 x y / 2251799813685248 * 19) (m1 x y % 2251799813685248 + m0 x y / 2251799813685248) (m2 x y % 2251799813685248 + m1 x y / 2251799813685248) (m3 x y % 2251799813685248 + m2 x y / 2251799813685248) (m4 x y % 2251799813685248 + m3 x y / 2251799813685248)
theorem mb {a b : Int} (a0 : 0 ≤ a) (a1 : a ≤ 2251799813840876) (b0 : 0 ≤ b) (b1 : b ≤ 42784196462976644) : 0 ≤ a * b ∧ a * b ≤ 96341445630662272367569520500144 :=
 ⟨Int.mul_nonneg a0 b0, Int.le_trans (Int.mul_le_mul a1 b1 b0 (by decide)) (by decide)⟩
structure MB (x y : E5) : Prop where
 aa : 0 ≤ x.a * y.a ∧ x.a * y.a ≤ 96341445630662272367569520500144
 ab : 0 ≤ x.a * y.b ∧ x.a * y.b ≤ 96341445630662272367569520500144
 ac : 0 ≤ x.a * y.c ∧ x.a * y.c ≤ 96341445630662272367569520500144
 ad : 0 ≤ x.a * y.d ∧ x.a * y.d ≤ 96341445630662272367569520500144
 ae : 0 ≤ x.a * y.e ∧ x.a * y.e ≤ 96341445630662272367569520500144
 ba : 0 ≤ x.b * y.a ∧ x.b * y.a ≤ 96341445630662272367569520500144
 bb : 0 ≤ x.b * y.b ∧ x.b * y.b ≤ 96341445630662272367569520500144
 bc : 0 ≤ x.b * y.c ∧ x.b * y.c ≤ 96341445630662272367569520500144
 bd : 0 ≤ x.b * y.d ∧ x.b * y.d ≤ 96341445630662272367569520500144
 be : 0 ≤ x.b * y.e ∧ x.b * y.e ≤ 96341445630662272367569520500144
 ca : 0 ≤ x.c * y.a ∧ x.c * y.a ≤ 96341445630662272367569520500144
 cb : 0 ≤ x.c * y.b ∧ x.c * y.b ≤ 96341445630662272367569520500144
 cc : 0 ≤ x.c * y.c ∧ x.c * y.c ≤ 96341445630662272367569520500144
 cd : 0 ≤ x.c * y.d ∧ x.c * y.d ≤ 96341445630662272367569520500144
 ce : 0 ≤ x.c * y.e ∧ x.c * y.e ≤ 96341445630662272367569520500144
 da : 0 ≤ x.d * y.a ∧ x.d * y.a ≤ 96341445630662272367569520500144
 db : 0 ≤ x.d * y.b ∧ x.d * y.b ≤ 96341445630662272367569520500144
 dc : 0 ≤ x.d * y.c ∧ x.d * y.c ≤ 96341445630662272367569520500144
 dd : 0 ≤ x.d * y.d ∧ x.d * y.d ≤ 96341445630662272367569520500144
 de : 0 ≤ x.d * y.e ∧ x.d * y.e ≤ 96341445630662272367569520500144
 ea : 0 ≤ x.e * y.a ∧ x.e * y.a ≤ 96341445630662272367569520500144
 eb : 0 ≤ x.e * y.b ∧ x.e * y.b ≤ 96341445630662272367569520500144
 ec : 0 ≤ x.e * y.c ∧ x.e * y.c ≤ 96341445630662272367569520500144
 ed : 0 ≤ x.e * y.d ∧ x.e * y.d ≤ 96341445630662272367569520500144
 ee : 0 ≤ x.e * y.e ∧ x.e * y.e ≤ 96341445630662272367569520500144
 bb' : 0 ≤ x.b * (y.b * 19) ∧ x.b * (y.b * 19) ≤ 96341445630662272367569520500144
 bc' : 0 ≤ x.b * (y.c * 19) ∧ x.b * (y.c * 19) ≤ 96341445630662272367569520500144
 bd' : 0 ≤ x.b * (y.d * 19) ∧ x.b * (y.d * 19) ≤ 96341445630662272367569520500144
 be' : 0 ≤ x.b * (y.e * 19) ∧ x.b * (y.e * 19) ≤ 96341445630662272367569520500144
 cb' : 0 ≤ x.c * (y.b * 19) ∧ x.c * (y.b * 19) ≤ 96341445630662272367569520500144
 cc' : 0 ≤ x.c * (y.c * 19) ∧ x.c * (y.c * 19) ≤ 96341445630662272367569520500144
 cd' : 0 ≤ x.c * (y.d * 19) ∧ x.c * (y.d * 19) ≤ 96341445630662272367569520500144
 ce' : 0 ≤ x.c * (y.e * 19) ∧ x.c * (y.e * 19) ≤ 96341445630662272367569520500144
 db' : 0 ≤ x.d * (y.b * 19) ∧ x.d * (y.b * 19) ≤ 96341445630662272367569520500144
 dc' : 0 ≤ x.d * (y.c * 19) ∧ x.d * (y.c * 19) ≤ 96341445630662272367569520500144
 dd' : 0 ≤ x.d * (y.d * 19) ∧ x.d * (y.d * 19) ≤ 96341445630662272367569520500144
 de' : 0 ≤ x.d * (y.e * 19) ∧ x.d * (y.e * 19) ≤ 96341445630662272367569520500144
 eb' : 0 ≤ x.e * (y.b * 19) ∧ x.e * (y.b * 19) ≤ 96341445630662272367569520500144
 ec' : 0 ≤ x.e * (y.c * 19) ∧ x.e * (y.c * 19) ≤ 96341445630662272367569520500144
 ed' : 0 ≤ x.e * (y.d * 19) ∧ x.e * (y.d * 19) ≤ 96341445630662272367569520500144
 ee' : 0 ≤ x.e * (y.e * 19) ∧ x.e * (y.e * 19) ≤ 96341445630662272367569520500144
theorem MB.of {x y : E5} (hx : x.Ok) (hy : y.Ok) : MB x y := ⟨mb hx.a0 hx.a1 hy.a0 (by have := hy.a1; omega), mb hx.a0 hx.a1 hy.b0 (by have := hy.b1; omega), mb hx.a0 hx.a1 hy.c0 (by have := hy.c1; omega), mb hx.a0 hx.a1 hy.d0 (by have := hy.d1; omega), mb hx.a0 hx.a1 hy.e0 (by have := hy.e1; omega), mb hx.b0 hx.b1 hy.a0 (by have := hy.a1; omega), mb hx.b0 hx.b1 hy.b0 (by have := hy.b1; omega), mb hx.b0 hx.b1 hy.c0 (by have := hy.c1; omega), mb hx.b0 hx.b1 hy.d0 (by have := hy.d1; omega), mb hx.b0 hx.b1 hy.e0 (by have := hy.e1; omega), mb hx.c0 hx.c1 hy.a0 (by have := hy.a1; omega), mb hx.c0 hx.c1 hy.b0 (by have := hy.b1; omega), mb hx.c0 hx.c1 hy.c0 (by have := hy.c1; omega), mb hx.c0 hx.c1 hy.d0 (by have := hy.d1; omega), mb hx.c0 hx.c1 hy.e0 (by have := hy.e1; omega), mb hx.d0 hx.d1 hy.a0 (by have := hy.a1; omega), mb hx.d0 hx.d1 hy.b0 (by have := hy.b1; omega), mb hx.d0 hx.d1 hy.c0 (by have := hy.c1; omega), mb hx.d0 hx.d1 hy.d0 (by have := hy.d1; omega), mb hx.d0 hx.d1 hy.e0 (by have := hy.e1; omega), mb hx.e0 hx.e1 hy.a0 (by have := hy.a1; omega), mb hx.e0 hx.e1 hy.b0 (by have := hy.b1; omega), mb hx.e0 hx.e1 hy.c0 (by have := hy.c1; omega), mb hx.e0 hx.e1 hy.d0 (by have := hy.d1; omega), mb hx.e0 hx.e1 hy.e0 (by have := hy.e1; omega), mb hx.b0 hx.b1 (by have := hy.b0; omega) (by have := hy.b1; omega), mb hx.b0 hx.b1 (by have := hy.c0; omega) (by have := hy.c1; omega), mb hx.b0 hx.b1 (by have := hy.d0; omega) (by have := hy.d1; omega), mb hx.b0 hx.b1 (by have := hy.e0; omega) (by have := hy.e1; omega), mb hx.c0 hx.c1 (by have := hy.b0; omega) (by have := hy.b1; omega), mb hx.c0 hx.c1 (by have := hy.c0; omega) (by have := hy.c1; omega), mb hx.c0 hx.c1 (by have := hy.d0; omega) (by have := hy.d1; omega), mb hx.c0 hx.c1 (by have := hy.e0; omega) (by have := hy.e1; omega), mb hx.d0 hx.d1 (by have := hy.b0; omega) (by have := hy.b1; omega), mb hx.d0 hx.d1 (by have := hy.c0; omega) (by have := hy.c1; omega), mb hx.d0 hx.d1 (by have := hy.d0; omega) (by have := hy.d1; omega), mb hx.d0 hx.d1 (by have := hy.e0; omega) (by have := hy.e1; omega), mb hx.e0 hx.e1 (by have := hy.b0; omega) (by have := hy.b1; omega), mb hx.e0 hx.e1 (by have := hy.c0; omega) (by have := hy.c1; omega), mb hx.e0 hx.e1 (by have := hy.d0; omega) (by have := hy.d1; omega), mb hx.e0 hx.e1 (by have := hy.e0; omega) (by have := hy.e1; omega)⟩
structure MS (x y : E5) : Prop where
 s0 : 0 ≤ m0 x y ∧ m0 x y ≤ 481707228153311361837847602500720
 s1 : 0 ≤ m1 x y ∧ m1 x y ≤ 481707228153311361837847602500720
 s2 : 0 ≤ m2 x y ∧ m2 x y ≤ 481707228153311361837847602500720
 s3 : 0 ≤ m3 x y ∧ m3 x y ≤ 481707228153311361837847602500720
 s4 : 0 ≤ m4 x y ∧ m4 x y ≤ 481707228153311361837847602500720
theorem MS.of {x y : E5} (hx : x.Ok) (hy : y.Ok) : MS x y := by
 have B := MB.of hx hy
 refine ⟨?_, ?_, ?_, ?_, ?_⟩
 ·unfold m0; have := B.aa; have := B.be'; have := B.cd'; have := B.dc'; have := B.eb'; omega
 ·unfold m1; have := B.ab; have := B.ba; have := B.ce'; have := B.dd'; have := B.ec'; omega
 ·unfold m2; have := B.ac; have := B.bb; have := B.ca; have := B.de'; have := B.ed'; omega
 ·unfold m3; have := B.ad; have := B.bc; have := B.cb; have := B.da; have := B.ee'; omega
 ·unfold m4; have := B.ae; have := B.bd; have := B.cc; have := B.db; have := B.ea; omega
theorem mulF_ok {x y : E5} (hx : x.Ok) (hy : y.Ok) : (mulF x y).Ok := by
 obtain ⟨h0, h1, h2, h3, h4⟩ := MS.of hx hy
 unfold mulF
 generalize m0 x y = n0 at *
 generalize m1 x y = n1 at *
 generalize m2 x y = n2 at *
 generalize m3 x y = n3 at *
 generalize m4 x y = n4 at *
 exact car_ok ⟨by omega, by omega⟩ ⟨by omega, by omega⟩ ⟨by omega, by omega⟩ ⟨by omega, by omega⟩ ⟨by omega, by omega⟩
theorem mul19 (p q : Int) : p * (q * 19) = 19 * (p * q) := by rw [← Int.mul_assoc, Int.mul_comm]
theorem mulF_n (x y : E5) : Cg (mulF x y).n (x.n * y.n) := by
 refine (car_n _ _ _ _ _).trans ?_
 have he : Cg (E5.n ⟨m0 x y % 2251799813685248 + m4 x y / 2251799813685248 * 19, m1 x y % 2251799813685248 + m0 x y / 2251799813685248, m2 x y % 2251799813685248 + m1 x y / 2251799813685248, m3 x y % 2251799813685248 + m2 x y / 2251799813685248, m4 x y % 2251799813685248 + m3 x y / 2251799813685248⟩) (E5.n ⟨m0 x y, m1 x y, m2 x y, m3 x y, m4 x y⟩) := by
  refine ⟨- (m4 x y / 2251799813685248), ?_⟩
  simp only [E5.n, Pm]
  omega
 refine he.trans ?_
 clear he
 obtain ⟨a, b, c, d, e⟩ := x
 obtain ⟨f, g, h, i, j⟩ := y
 refine ⟨- (b * j + c * i + d * h + e * g) - 2251799813685248 * (c * j + d * i + e * h) - 5070602400912917605986812821504 * (d * j + e * i) - 11417981541647679048466287755595961091061972992 * (e * j), ?_⟩
 obtain ⟨X, hX⟩ : ∃ X, X = E5.n ⟨a, b, c, d, e⟩ * E5.n ⟨f, g, h, i, j⟩ := ⟨_, rfl⟩
 rw [← hX]
 simp only [E5.n, Int.add_mul, Int.mul_add, Int.mul_assoc, Int.mul_left_comm a (2251799813685248 : Int), Int.mul_left_comm a (5070602400912917605986812821504 : Int), Int.mul_left_comm a (11417981541647679048466287755595961091061972992 : Int), Int.mul_left_comm a (25711008708143844408671393477458601640355247900524685364822016 : Int), Int.mul_left_comm b (2251799813685248 : Int), Int.mul_left_comm b (5070602400912917605986812821504 : Int), Int.mul_left_comm b (11417981541647679048466287755595961091061972992 : Int), Int.mul_left_comm b (25711008708143844408671393477458601640355247900524685364822016 : Int), Int.mul_left_comm c (2251799813685248 : Int), Int.mul_left_comm c (5070602400912917605986812821504 : Int), Int.mul_left_comm c (11417981541647679048466287755595961091061972992 : Int), Int.mul_left_comm c (25711008708143844408671393477458601640355247900524685364822016 : Int), Int.mul_left_comm d (2251799813685248 : Int), Int.mul_left_comm d (5070602400912917605986812821504 : Int), Int.mul_left_comm d (11417981541647679048466287755595961091061972992 : Int), Int.mul_left_comm d (25711008708143844408671393477458601640355247900524685364822016 : Int), Int.mul_left_comm e (2251799813685248 : Int), Int.mul_left_comm e (5070602400912917605986812821504 : Int), Int.mul_left_comm e (11417981541647679048466287755595961091061972992 : Int), Int.mul_left_comm e (25711008708143844408671393477458601640355247900524685364822016 : Int)] at hX
 simp only [E5.n, m0, m1, m2, m3, m4, mul19, Pm]
 omega
open Go.RowKit
def arr (n : Nat) (f : NI) : Array Value := ((List.range n).map fun i => Value.int .u64 (f i)).toArray
theorem arr_size (n : Nat) (f : NI) : (arr n f).size = n := by simp [arr]
theorem arr_get (n : Nat) (f : NI) (i : Nat) (h : i < n) : (arr n f)[i]? = some (.int .u64 (f i)) := by simp [arr, h]
theorem arr_congr {n : Nat} {f g : NI} (h : ∀ i, i < n → f i = g i) : arr n f = arr n g := by
 unfold arr
 congr 1
 exact List.map_congr_left fun i hi => by rw [h i (List.mem_range.1 hi)]
def upd (f : NI) (k : Nat) (v : Int) : Nat → Int := fun i => if i = k then v else f i
theorem arr_set (n : Nat) (f : NI) (k : Nat) (v : Int) : (arr n f).setIfInBounds k (.int .u64 v) = arr n (upd f k v) := by
 apply Array.ext_getElem?
 intro i
 by_cases hi : i < n
 ·rw [Array.getElem?_setIfInBounds, arr_get n (upd f k v) i hi]
  by_cases hk : k = i
  ·subst hk
   rw [if_pos rfl, if_pos (by rw [arr_size]; exact hi)]
   simp [upd]
  ·have : ¬ i = k := fun h => hk h.symm
   rw [if_neg hk, arr_get n f i hi]
   simp [upd, this]
 ·rw [Array.getElem?_eq_none (by simp [arr_size]; omega), Array.getElem?_eq_none (by simp [arr_size]; omega)]
def Row (w : World) (g : Nat) (T : TypeId) (n : Nat) (f : NI) : Prop := w.heap[g]? = some (.cells (arr n f) T (0, 0))
theorem Row.lt {w : World} {g : Nat} {T : TypeId} {n : Nat} {f : NI} (h : Row w g T n f) : g < w.heap.size := by
 by_cases hlt : g < w.heap.size
 ·exact hlt
 ·have hn : w.heap[g]? = none := by simp; omega
  rw [Row, hn] at h
  cases h
theorem Row.cell {w : World} {g : Nat} {T : TypeId} {n : Nat} {f : NI} (h : Row w g T n f) {i : Nat} (hi : i < n) : w.cell? ⟨g, i, none⟩ = some (.int .u64 (f i)) := by
 rw [cell_of_row w g i (arr n f) T (0, 0) h, arr_get n f i hi]
theorem Row.free {w : World} {g : Nat} {T : TypeId} {n : Nat} {f : NI} (h : Row w g T n f) (i : Nat) : w.frozen? ⟨g, i, none⟩ = false := frozen_of_row w g i (arr n f) T h
theorem Row.set {w : World} {g : Nat} {T : TypeId} {n : Nat} {f : NI} (h : Row w g T n f) (k : Nat) (v : Int) : Row (w.setCell ⟨g, k, none⟩ (.int .u64 v)) g T n (upd f k v) := by
 unfold Row
 rw [heap_setCell_same w g k (arr n f) T _ h, arr_set]
theorem Row.other {w : World} {g : Nat} {T : TypeId} {n : Nat} {f : NI} (h : Row w g T n f) {a : Addr} (ha : g ≠ a.block) (v : Value) : Row (w.setCell a v) g T n f := by
 unfold Row
 rw [heap_setCell_other w a g v ha]
 exact h
theorem Row.keep {w w' : World} {g : Nat} {T : TypeId} {n : Nat} {f : NI} (h : Row w g T n f) (hb : Below w.heap.size w w') : Row w' g T n f := by
 unfold Row
 rw [hb.block g h.lt]
 exact h
theorem Row.alloc {w : World} {g : Nat} {T : TypeId} {n : Nat} {f : NI} (h : Row w g T n f) (o : Obj) : Row (w.alloc o) g T n f := h.keep ((Below.refl _ _).alloc (Nat.le_refl _) _)
theorem Row.congr {w : World} {g : Nat} {T : TypeId} {n : Nat} {f f' : NI} (h : Row w g T n f) (e : ∀ i, i < n → f i = f' i) : Row w g T n f' := by
 unfold Row
 rw [← arr_congr e]
 exact h
theorem Row.new (w : World) (T : TypeId) (n : Nat) (f : NI) : Row (w.alloc (.cells (arr n f) T)) w.heap.size T n f := heap_alloc_new w _
theorem Row.new' (w : World) (T : TypeId) (n : Nat) (f : NI) {g : Nat} (hg : g = w.heap.size) : Row (w.alloc (.cells (arr n f) T)) g T n f := by
 subst hg
 exact heap_alloc_new w _
open Go.RowKit
theorem Row.setAll {W : World} {g : Nat} {T : TypeId} {n : Nat} {f : NI} (h : Row W g T n f) (h' : NI) : Row (W.setCells g 0 (arr n h').toList) g T n h' := by
 unfold Row
 rw [heap_setCells g T _ W (arr n f) 0 h]
 congr 2
 apply Array.ext_getElem?
 intro i
 rw [setAll_get _ _ _ _ (by simp [arr_size])]
 by_cases hi : i < n
 ·rw [if_pos (by simp [arr_size]; omega)]
  simp
 ·rw [if_neg (by simp [arr_size]; omega), Array.getElem?_eq_none (by rw [arr_size]; omega), Array.getElem?_eq_none (by rw [arr_size]; omega)]
theorem Row.setOther {W : World} {g k : Nat} {T : TypeId} {n : Nat} {f : NI} (h : Row W g T n f) (hk : g ≠ k) (o : Nat) (vs : List Value) : Row (W.setCells k o vs) g T n f := by
 unfold Row
 rw [heap_setCells_other k g hk]
 exact h
theorem Row.there {W : World} {g : Nat} {T : TypeId} {n : Nat} {f : NI} (h : Row W g T n f) : W.there g 0 n := fun j hj => by
 rw [Nat.zero_add, h.cell hj]
 exact ⟨rfl, h.free j⟩
theorem arr_one (n : Nat) (f : NI) : (arr n f).all (·.oneCell') = true := by
 rw [Array.all_eq_true]
 intro i hi
 have hi' : i < n := by rw [arr_size] at hi; exact hi
 have h := arr_get n f i hi'
 rw [Array.getElem?_eq_getElem hi] at h
 rw [Option.some.inj h]
 rfl
theorem info88 (f : NI) : (Tryz.prog.info? 88).map (·.size) = some (arr 16 f).size := by rw [arr_size]; kernel_rfl
theorem info108 (f : NI) : (Tryz.prog.info? 108).map (·.size) = some (arr 32 f).size := by rw [arr_size]; kernel_rfl
open Go.RowKit
def S (f : NI) : Nat → Int
 | 0 => 0
 | n + 1 => S f n + f n * 65536 ^ n
theorem p16 (n : Nat) : (0 : Int) < 65536 ^ n := Int.pow_pos (by decide)
theorem p16s (n : Nat) : (65536 : Int) ^ (n + 1) = 65536 * 65536 ^ n := by rw [Int.pow_succ, Int.mul_comm]
def Dig (f : NI) (n : Nat) : Prop := ∀ i, i < n → 0 ≤ f i ∧ f i < 65536
theorem Dig.le {f : NI} {n m : Nat} (h : Dig f n) (hm : m ≤ n) : Dig f m := fun i hi => h i (by omega)
theorem S_bd {f : NI} : ∀ {n : Nat}, Dig f n → 0 ≤ S f n ∧ S f n < 65536 ^ n
 | 0, _ => by simp [S]
 | n + 1, h => by
  have ih := S_bd (n := n) (h.le (by omega))
  have hd := h n (by omega)
  have hp := p16 n
  have h1 : f n * 65536 ^ n ≤ 65535 * 65536 ^ n := Int.mul_le_mul_of_nonneg_right (by omega) (by omega)
  have h2 : 0 ≤ f n * 65536 ^ n := Int.mul_nonneg hd.1 (by omega)
  rw [p16s]
  simp only [S]
  omega
theorem S_congr {f g : NI} : ∀ {n : Nat}, (∀ i, i < n → f i = g i) → S f n = S g n
 | 0, _ => rfl
 | n + 1, h => by
  simp only [S]
  rw [S_congr (n := n) fun i hi => h i (by omega), h n (by omega)]
theorem S_above {f g : NI} {p : Nat} : ∀ {n : Nat}, p ≤ n → (∀ j, p ≤ j → j < n → f j = g j) → S f n - S g n = S f p - S g p := by
 intro n
 induction n with
 | zero => intro h _; have : p = 0 := by omega
           subst this; rfl
 | succ n ih =>
  intro h he
  by_cases hp : p = n + 1
  ·subst hp; rfl
  ·have h1 := ih (by omega) fun j a b => he j a (by omega)
   simp only [S]
   rw [he n (by omega) (by omega)]
   omega
theorem S_lt {f g : NI} {p : Nat} (hf : Dig f 16) (hg : Dig g 16) (hp : p < 16) (he : ∀ j, p + 1 ≤ j → j < 16 → f j = g j) (hne : f p ≠ g p) : decide (f p < g p) = decide (S f 16 < S g 16) := by
 have h1 := S_above (n := 16) (by omega) he
 have h2 := S_bd (hf.le (m := p) (by omega))
 have h3 := S_bd (hg.le (m := p) (by omega))
 have hx := p16 p
 simp only [S] at h1
 generalize S f p = sf at *
 generalize S g p = sg at *
 generalize (65536 : Int) ^ p = X at *
 have hS : (S f 16 < S g 16) ↔ f p < g p := by
  constructor
  ·intro h
   apply Int.lt_of_not_ge
   intro hge
   have : f p ≥ g p + 1 := by omega
   have : (f p - g p) * X ≥ 1 * X := Int.mul_le_mul_of_nonneg_right (by omega) (by omega)
   rw [Int.sub_mul] at this
   have e16 : S f 16 - S g 16 < 0 := by omega
   simp only [S] at e16
   omega
  ·intro h
   have : (g p - f p) * X ≥ 1 * X := Int.mul_le_mul_of_nonneg_right (by omega) (by omega)
   rw [Int.sub_mul] at this
   have e16 : ∀ d, S f 16 - S g 16 = d → d < 0 → S f 16 < S g 16 := fun d a b => by omega
   simp only [S] at e16 ⊢
   omega
 exact decide_eq_decide.2 hS.symm
def wid (f : NI) (k : Nat) : Nat → Int := fun i => if i < k then f i else 0
theorem wide_any (f : NI) (w : World) : Cs 60 #[.agg (arr 16 f)] w (.agg (arr 32 (wid f 16))) := by
 go_enter Tryz.func60, Tryz.ntmps60
 go_wp2
 rw [show #[Value.int .u64 0, Value.int .u64 0, Value.int .u64 0, Value.int .u64 0, Value.int .u64 0, Value.int .u64 0, Value.int .u64 0, Value.int .u64 0, Value.int .u64 0, Value.int .u64 0, Value.int .u64 0, Value.int .u64 0, Value.int .u64 0, Value.int .u64 0, Value.int .u64 0, Value.int .u64 0, Value.int .u64 0, Value.int .u64 0, Value.int .u64 0, Value.int .u64 0, Value.int .u64 0, Value.int .u64 0, Value.int .u64 0, Value.int .u64 0, Value.int .u64 0, Value.int .u64 0, Value.int .u64 0, Value.int .u64 0, Value.int .u64 0, Value.int .u64 0, Value.int .u64 0, Value.int .u64 0] = arr 32 (fun _ => 0) from rfl]
 have R1 : Row (((w.alloc (.cells (arr 16 f) 88)).alloc (.cells (arr 32 fun _ => 0) 108)).alloc (.cells (arr 32 fun _ => 0) 108)) w.heap.size 88 16 f := ((Row.new w 88 16 f).alloc _).alloc _
 have R2 : Row (((w.alloc (.cells (arr 16 f) 88)).alloc (.cells (arr 32 fun _ => 0) 108)).alloc (.cells (arr 32 fun _ => 0) 108)) (w.heap.size + 1) 108 32 fun _ => 0 := (Row.new' _ 108 32 _ (by simp)).alloc _
 have R3 : Row (((w.alloc (.cells (arr 16 f) 88)).alloc (.cells (arr 32 fun _ => 0) 108)).alloc (.cells (arr 32 fun _ => 0) 108)) (w.heap.size + 1 + 1) 108 32 fun _ => 0 := Row.new' _ 108 32 _ (by simp)
 have O : Below w.heap.size w (((w.alloc (.cells (arr 16 f) 88)).alloc (.cells (arr 32 fun _ => 0) 108)).alloc (.cells (arr 32 fun _ => 0) 108)) := (((Below.refl _ _).alloc (Nat.le_refl _) _).alloc (by simp) _).alloc (by simp; omega) _
 generalize ((w.alloc (.cells (arr 16 f) 88)).alloc (.cells (arr 32 fun _ => 0) 108)).alloc (.cells (arr 32 fun _ => 0) 108) = W at R1 R2 R3 O ⊢
 go_loopw [4] (fun i wr => ∃ k : Nat, k ≤ 16 ∧ i = .int .i64 k ∧ Row wr w.heap.size 88 16 f ∧ Row wr (w.heap.size + 1) 108 32 (fun _ => 0) ∧ Row wr (w.heap.size + 1 + 1) 108 32 (wid f k) ∧ Below w.heap.size w wr) (fun i _ => 16 - (intOf i).toNat)
 case atStart => exact ⟨0, by omega, rfl, R1, R2, R3, O⟩
 case round =>
  clear R1 R2 R3 O
  obtain ⟨k, hk, rfl, R1, R2, R3, O⟩ := hrel
  by_cases hlt : k < 16
  ·have c := R1.cell hlt
   have d := R3.cell (i := k) (by omega)
   have e := R3.free k
   have RR := hide ((R3.set k (f k)))
   have R1' := hide (R1.other (a := ⟨w.heap.size + 1 + 1, k, none⟩) (by simp; omega) (.int .u64 (f k)))
   have R2' := hide (R2.other (a := ⟨w.heap.size + 1 + 1, k, none⟩) (by simp) (.int .u64 (f k)))
   have O' := hide (O.setCell (p := ⟨w.heap.size + 1 + 1, k, none⟩) (by simp; omega) (.int .u64 (f k)))
   clear R1 R2 R3 O
   go_wp2
   go_roundw
   case rel => exact ⟨k + 1, by omega, by go_num, R1'.out, R2'.out, RR.out.congr (fun i _ => by unfold upd wid; by_cases h : i = k <;> simp [h] <;> omega), O'.out⟩
   case measure => simp [intOf]; omega
  ·have hk' : k = 16 := by omega
   subst hk'
   have RR := hide (R2.setAll (wid f 16))
   have OO := hide (below_setCells (g := w.heap.size + 1) (by omega) (arr 32 (wid f 16)).toList 0 O)
   go_wp2_with (first | (refine wpList_load_row rfl 108 _ rfl (w.heap.size + 1 + 1) rfl 108 (arr 32 (wid f 16)) (0, 0) _ R3 Tryz.underlying108 rfl (info108 _) ?_) | (refine wpList_store_mid rfl 108 _ _ rfl (w.heap.size + 1) 0 (arr 32 (wid f 16)) rfl rfl (by rw [arr_size]; exact R2.there) (info108 _) (arr_one _ _) ?_))
   exact bodyPost_ret (v := .agg (arr 32 (wid f 16))) (results_cell_row Tryz.results60 _ _ (w.heap.size + 1) 108 (arr 32 (wid f 16)) (0, 0) _ rfl RR.out Tryz.underlying108 rfl (info108 _)) rfl ⟨rfl, OO.out⟩
theorem rowN {w : World} {g : Nat} {T : TypeId} {n : Nat} {f : NI} (h : Row w g T n f) (k : Nat) : Row (w.drewN k) g T n f := h
theorem belN {B : Nat} {a w : World} {n : Nat} (h : Below B a w) : Below B a (w.drewN n) := ⟨h.os, h.tape, h.output, h.size, h.block⟩
theorem less_any (f g : NI) (w : World) (hf : Dig f 16) (hg : Dig g 16) : Cs 84 #[.agg (arr 16 f), .agg (arr 16 g)] w (.bool (decide (S f 16 < S g 16))) := by
 go_enter Tryz.func84, Tryz.ntmps84
 go_wp2
 have R1 : Row ((w.alloc (.cells (arr 16 f) 88)).alloc (.cells (arr 16 g) 88)) w.heap.size 88 16 f := (Row.new w 88 16 f).alloc _
 have R2 : Row ((w.alloc (.cells (arr 16 f) 88)).alloc (.cells (arr 16 g) 88)) (w.heap.size + 1) 88 16 g := Row.new' _ 88 16 _ (by simp)
 have O : Below w.heap.size w ((w.alloc (.cells (arr 16 f) 88)).alloc (.cells (arr 16 g) 88)) := ((Below.refl _ _).alloc (Nat.le_refl _) _).alloc (by simp) _
 generalize (w.alloc (.cells (arr 16 f) 88)).alloc (.cells (arr 16 g) 88) = W at R1 R2 O ⊢
 go_loopw [5] (fun i wr => ∃ m : Nat, m ≤ 16 ∧ (∃ v : Int, v = (m : Int) - 1 ∧ i = .int .i64 v) ∧ (∀ j, m ≤ j → j < 16 → f j = g j) ∧ Row wr w.heap.size 88 16 f ∧ Row wr (w.heap.size + 1) 88 16 g ∧ Below w.heap.size w wr) (fun i _ => (intOf i + 1).toNat)
 case atStart => exact ⟨16, by omega, ⟨15, by omega, rfl⟩, fun j a b => by omega, R1, R2, O⟩
 case round =>
  clear R1 R2 O
  obtain ⟨m, hm, ⟨v, hv, hi⟩, hall, R1, R2, O⟩ := hrel
  rcases m with _ | p
  ·have e : v = -1 := by omega
   rw [e] at hi
   clear hv e
   subst hi
   have HS := hide (S_congr (n := 16) fun i hi => hall i (by omega) hi)
   clear hall
   go_wp2
   go_ret
   refine ⟨?_, O⟩
   rw [HS.out]
   simp
  ·have e : v = (p : Int) := by omega
   rw [e] at hi
   clear hv e
   subst hi
   have c := R1.cell (i := p) (by omega)
   have d := R2.cell (i := p) (by omega)
   have i1 : (0 : Int) ≤ (p : Int) := by omega
   have i2 : (p : Int) < 16 := by omega
   have HA := hide hall
   clear hall
   by_cases hfg : f p = g p
   ·have hb : (f p != g p) = false := by simp [hfg]
    have HF := hide hfg
    clear hfg
    go_wp2_with fail
    go_quiet (fail)
    go_wp2
    go_roundw
    case rel => exact ⟨p, by omega, ⟨_, by omega, rfl⟩, fun j a b => by
     by_cases hj : j = p
     ·rw [hj]; exact HF.out
     ·exact HA.out j (by omega) b, rowN R1 _, rowN R2 _, belN O⟩
    case measure => simp [intOf]
   ·have hb : (f p != g p) = true := by simp [hfg]
    have HL := hide (S_lt hf hg (p := p) (by omega) HA.out hfg)
    clear hfg
    go_wp2_with fail
    go_quiet (fail)
    go_wp2_with fail
    go_quiet (fail)
    go_wp2
    go_ret
    exact ⟨by rw [← HL.out]; rfl, belN (belN O)⟩
open Go.RowKit
def pk (k : Nat) : Nat → Int := fun i => if i = 0 then 65517 else if i < k then 65535 else 0
def pF : Nat → Int := upd (pk 15) 15 32767
theorem prime_any (w : World) : Cs 85 #[] w (.agg (arr 16 pF)) := by
 go_enter Tryz.func85, Tryz.ntmps85
 go_wp2
 rw [show #[Value.int .u64 0, Value.int .u64 0, Value.int .u64 0, Value.int .u64 0, Value.int .u64 0, Value.int .u64 0, Value.int .u64 0, Value.int .u64 0, Value.int .u64 0, Value.int .u64 0, Value.int .u64 0, Value.int .u64 0, Value.int .u64 0, Value.int .u64 0, Value.int .u64 0, Value.int .u64 0] = arr 16 (fun _ => 0) from rfl]
 rw [show #[Value.int .u64 65517, Value.int .u64 0, Value.int .u64 0, Value.int .u64 0, Value.int .u64 0, Value.int .u64 0, Value.int .u64 0, Value.int .u64 0, Value.int .u64 0, Value.int .u64 0, Value.int .u64 0, Value.int .u64 0, Value.int .u64 0, Value.int .u64 0, Value.int .u64 0, Value.int .u64 0] = arr 16 (pk 1) from rfl]
 have R1 : Row ((w.alloc (.cells (arr 16 fun _ => 0) 88)).alloc (.cells (arr 16 (pk 1)) 88)) w.heap.size 88 16 (fun _ => 0) := (Row.new w 88 16 _).alloc _
 have R2 : Row ((w.alloc (.cells (arr 16 fun _ => 0) 88)).alloc (.cells (arr 16 (pk 1)) 88)) (w.heap.size + 1) 88 16 (pk 1) := Row.new' _ 88 16 _ (by simp)
 have O : Below w.heap.size w ((w.alloc (.cells (arr 16 fun _ => 0) 88)).alloc (.cells (arr 16 (pk 1)) 88)) := ((Below.refl _ _).alloc (Nat.le_refl _) _).alloc (by simp) _
 generalize (w.alloc (.cells (arr 16 fun _ => 0) 88)).alloc (.cells (arr 16 (pk 1)) 88) = W at R1 R2 O ⊢
 go_loopw [2] (fun i wr => ∃ k : Nat, 1 ≤ k ∧ k ≤ 15 ∧ i = .int .i64 k ∧ Row wr w.heap.size 88 16 (fun _ => 0) ∧ Row wr (w.heap.size + 1) 88 16 (pk k) ∧ Below w.heap.size w wr) (fun i _ => 15 - (intOf i).toNat)
 case atStart => exact ⟨1, by omega, by omega, rfl, R1, R2, O⟩
 case round =>
  clear R1 R2 O
  obtain ⟨k, hk0, hk, rfl, R1, R2, O⟩ := hrel
  by_cases hlt : k < 15
  ·have d := R2.cell (i := k) (by omega)
   have e := R2.free k
   have RR := hide ((R2.set k 65535))
   have R1' := hide (R1.other (a := ⟨w.heap.size + 1, k, none⟩) (by simp) (.int .u64 65535))
   have O' := hide (O.setCell (p := ⟨w.heap.size + 1, k, none⟩) (by simp) (.int .u64 65535))
   clear R1 R2 O
   go_wp2
   go_roundw
   case rel => exact ⟨k + 1, by omega, by omega, by go_num, R1'.out, RR.out.congr (fun i _ => by unfold upd pk; by_cases h : i = k <;> by_cases h0 : i = 0 <;> simp [h, h0] <;> omega), O'.out⟩
   case measure => simp [intOf]; omega
  ·have hk' : k = 15 := by omega
   subst hk'
   have d := R2.cell (i := 15) (by omega)
   have e := R2.free 15
   have R3 := R2.set 15 32767
   have R1' := R1.other (a := ⟨w.heap.size + 1, 15, none⟩) (by simp) (.int .u64 32767)
   have O' := O.setCell (p := ⟨w.heap.size + 1, 15, none⟩) (by simp) (.int .u64 32767)
   rw [show upd (pk 15) 15 32767 = pF from rfl] at R3
   have RR := hide (R1'.setAll pF)
   have OO := hide (below_setCells (g := w.heap.size) (Nat.le_refl _) (arr 16 pF).toList 0 O')
   clear R1 R2 O O' hlt hk hk0
   go_wp2_with (first | (refine wpList_load_row rfl 88 _ rfl (w.heap.size + 1) rfl 88 (arr 16 pF) (0, 0) _ R3 Tryz.underlying88 rfl (info88 _) ?_) | (refine wpList_store_mid rfl 88 _ _ rfl w.heap.size 0 (arr 16 pF) rfl rfl (by rw [arr_size]; exact R1'.there) (info88 _) (arr_one _ _) ?_))
   exact bodyPost_ret (v := .agg (arr 16 pF)) (results_cell_row Tryz.results85 _ _ w.heap.size 88 (arr 16 pF) (0, 0) _ rfl RR.out Tryz.underlying88 rfl (info88 _)) rfl ⟨rfl, OO.out⟩
theorem pF_dig : Dig pF 16 := fun i _ => by
 unfold pF upd pk
 by_cases h : i = 15
 ·simp [h]
 ·by_cases h0 : i = 0
  ·simp [h0]
  ·by_cases h1 : i < 15 <;> simp [h, h0, h1]
theorem pF_S : S pF 16 = Pm := by decide +kernel
def bor (a b : NI) : Nat → Int
 | 0 => 0
 | k + 1 => 1 - (65536 + a k - b k - bor a b k) / 65536
def minusF (a b : NI) : Nat → Int := fun i => (65536 + a i - b i - bor a b i) % 65536
def mk (a b : NI) (k : Nat) : Nat → Int := fun i => if i < k then minusF a b i else 0
theorem bor_bd {a b : NI} (ha : Dig a 16) (hb : Dig b 16) : ∀ k, k ≤ 16 → 0 ≤ bor a b k ∧ bor a b k ≤ 1
 | 0, _ => by simp [bor]
 | k + 1, h => by
  have ih := bor_bd ha hb k (by omega)
  have h1 := ha k (by omega)
  have h2 := hb k (by omega)
  simp only [bor]
  omega
theorem minusF_dig (a b : NI) (n : Nat) : Dig (minusF a b) n := fun i _ => by unfold minusF; omega
theorem minus_S (a b : NI) : ∀ k, S (minusF a b) k = S a k - S b k + bor a b k * 65536 ^ k
 | 0 => by simp [S, bor]
 | k + 1 => by
  have ih := minus_S a b k
  have e : bor a b (k + 1) * 65536 ^ (k + 1) = 65536 * bor a b (k + 1) * 65536 ^ k := by rw [p16s, ← Int.mul_assoc, Int.mul_comm (bor a b (k + 1)) 65536]
  have e2 : minusF a b k = a k - b k - bor a b k + 65536 * bor a b (k + 1) := by
   simp only [minusF, bor]
   omega
  simp only [S]
  rw [ih, e, e2, Int.add_mul, Int.sub_mul, Int.sub_mul]
  omega
theorem minus_le {a b : NI} (ha : Dig a 16) (hb : Dig b 16) (h : S b 16 ≤ S a 16) : S (minusF a b) 16 = S a 16 - S b 16 := by
 have e := minus_S a b 16
 have h0 := bor_bd ha hb 16 (by omega)
 have h1 := S_bd (minusF_dig a b 16)
 have h2 := S_bd ha
 have h3 := S_bd hb
 have : bor a b 16 = 0 ∨ bor a b 16 = 1 := by omega
 rcases this with h4 | h4
 ·rw [h4] at e; omega
 ·rw [h4] at e; omega
theorem and16 {x : Int} (h0 : 0 ≤ x) (h1 : x < 18446744073709551616) : bits .and .u64 x 65535 = x % 65536 := by
 rw [u64_and x _ h0 h1 (by decide) (by decide)]
 have e : (65535 : Int).toNat = 65535 := by decide
 rw [e, nat_mask16]
 omega
theorem minus_any (a b : NI) (w : World) (ha : Dig a 16) (hb : Dig b 16) : Cs 86 #[.agg (arr 16 a), .agg (arr 16 b)] w (.agg (arr 16 (minusF a b))) := by
 go_enter Tryz.func86, Tryz.ntmps86
 go_wp2
 rw [show #[Value.int .u64 0, Value.int .u64 0, Value.int .u64 0, Value.int .u64 0, Value.int .u64 0, Value.int .u64 0, Value.int .u64 0, Value.int .u64 0, Value.int .u64 0, Value.int .u64 0, Value.int .u64 0, Value.int .u64 0, Value.int .u64 0, Value.int .u64 0, Value.int .u64 0, Value.int .u64 0] = arr 16 (fun _ => 0) from rfl]
 have R1 : Row ((((w.alloc (.cells (arr 16 a) 88)).alloc (.cells (arr 16 b) 88)).alloc (.cells (arr 16 fun _ => 0) 88)).alloc (.cells (arr 16 fun _ => 0) 88)) w.heap.size 88 16 a := (((Row.new w 88 16 a).alloc _).alloc _).alloc _
 have R2 : Row ((((w.alloc (.cells (arr 16 a) 88)).alloc (.cells (arr 16 b) 88)).alloc (.cells (arr 16 fun _ => 0) 88)).alloc (.cells (arr 16 fun _ => 0) 88)) (w.heap.size + 1) 88 16 b := ((Row.new' _ 88 16 _ (by simp)).alloc _).alloc _
 have R3 : Row ((((w.alloc (.cells (arr 16 a) 88)).alloc (.cells (arr 16 b) 88)).alloc (.cells (arr 16 fun _ => 0) 88)).alloc (.cells (arr 16 fun _ => 0) 88)) (w.heap.size + 1 + 1) 88 16 (fun _ => 0) := (Row.new' _ 88 16 _ (by simp)).alloc _
 have R4 : Row ((((w.alloc (.cells (arr 16 a) 88)).alloc (.cells (arr 16 b) 88)).alloc (.cells (arr 16 fun _ => 0) 88)).alloc (.cells (arr 16 fun _ => 0) 88)) (w.heap.size + 1 + 1 + 1) 88 16 (fun _ => 0) := Row.new' _ 88 16 _ (by simp)
 have O : Below w.heap.size w ((((w.alloc (.cells (arr 16 a) 88)).alloc (.cells (arr 16 b) 88)).alloc (.cells (arr 16 fun _ => 0) 88)).alloc (.cells (arr 16 fun _ => 0) 88)) := ((((Below.refl _ _).alloc (Nat.le_refl _) _).alloc (by simp) _).alloc (by simp; omega) _).alloc (by simp; omega) _
 generalize (((w.alloc (.cells (arr 16 a) 88)).alloc (.cells (arr 16 b) 88)).alloc (.cells (arr 16 fun _ => 0) 88)).alloc (.cells (arr 16 fun _ => 0) 88) = W at R1 R2 R3 R4 O ⊢
 go_loopw [6, 7] (fun bo i wr => ∃ k : Nat, k ≤ 16 ∧ bo = .int .u64 (bor a b k) ∧ i = .int .i64 k ∧ Row wr w.heap.size 88 16 a ∧ Row wr (w.heap.size + 1) 88 16 b ∧ Row wr (w.heap.size + 1 + 1) 88 16 (fun _ => 0) ∧ Row wr (w.heap.size + 1 + 1 + 1) 88 16 (mk a b k) ∧ Below w.heap.size w wr) (fun _ i _ => 16 - (intOf i).toNat)
 case atStart => exact ⟨0, by omega, rfl, rfl, R1, R2, R3, R4, O⟩
 case round =>
  clear R1 R2 R3 R4 O
  obtain ⟨k, hk, rfl, rfl, R1, R2, R3, R4, O⟩ := hrel
  by_cases hlt : k < 16
  ·have c := R1.cell hlt
   have d := R2.cell hlt
   have x := R4.cell (i := k) hlt
   have e := R4.free k
   obtain ⟨a0, a1⟩ := ha k hlt
   obtain ⟨b0, b1⟩ := hb k hlt
   obtain ⟨q0, q1⟩ := bor_bd ha hb k (by omega)
   have i1 : (0 : Int) ≤ (k : Int) := by omega
   have i2 : (k : Int) < 16 := by omega
   have ea := and16 (x := 65536 + a k - b k - bor a b k) (by omega) (by omega)
   have HB := hide (show bor a b (k + 1) = 1 - (65536 + a k - b k - bor a b k) / 65536 from rfl)
   have RR := hide (fun n => (rowN R4 n).set k ((65536 + a k - b k - bor a b k) % 65536))
   have R1' := hide (fun n => (rowN R1 n).other (a := ⟨w.heap.size + 1 + 1 + 1, k, none⟩) (by simp; omega) (.int .u64 ((65536 + a k - b k - bor a b k) % 65536)))
   have R2' := hide (fun n => (rowN R2 n).other (a := ⟨w.heap.size + 1 + 1 + 1, k, none⟩) (by simp) (.int .u64 ((65536 + a k - b k - bor a b k) % 65536)))
   have R3' := hide (fun n => (rowN R3 n).other (a := ⟨w.heap.size + 1 + 1 + 1, k, none⟩) (by simp) (.int .u64 ((65536 + a k - b k - bor a b k) % 65536)))
   have O' := hide (fun n => (belN (n := n) O).setCell (p := ⟨w.heap.size + 1 + 1 + 1, k, none⟩) (by simp; omega) (.int .u64 ((65536 + a k - b k - bor a b k) % 65536)))
   clear R1 R2 R3 R4 O
   generalize hbo : bor a b k = bo at *
   have HO := hide hbo
   clear hbo
   go_wp2_with fail
   go_quiet (fail)
   go_wp2
   exact ⟨⟨k + 1, by omega, by rw [HB.out], by go_num, R1'.out _, R2'.out _, R3'.out _, (RR.out _).congr (fun i _ => by
    unfold upd mk
    by_cases h : i = k
    ·subst h
     simp [minusF, HO.out]
    ·simp [h]
     omega), O'.out _⟩, by simp [intOf]; omega⟩
  ·have hk' : k = 16 := by omega
   subst hk'
   have e : arr 16 (mk a b 16) = arr 16 (minusF a b) := arr_congr fun i hi => by unfold mk; rw [if_pos hi]
   unfold Row at R4
   rw [e] at R4
   have RR := hide (R3.setAll (minusF a b))
   have OO := hide (below_setCells (g := w.heap.size + 1 + 1) (by omega) (arr 16 (minusF a b)).toList 0 O)
   go_wp2_with (first | (refine wpList_load_row rfl 88 _ rfl (w.heap.size + 1 + 1 + 1) rfl 88 (arr 16 (minusF a b)) (0, 0) _ R4 Tryz.underlying88 rfl (info88 _) ?_) | (refine wpList_store_mid rfl 88 _ _ rfl (w.heap.size + 1 + 1) 0 (arr 16 (minusF a b)) rfl rfl (by rw [arr_size]; exact R3.there) (info88 _) (arr_one _ _) ?_))
   exact bodyPost_ret (v := .agg (arr 16 (minusF a b))) (results_cell_row Tryz.results86 _ _ (w.heap.size + 1 + 1) 88 (arr 16 (minusF a b)) (0, 0) _ rfl RR.out Tryz.underlying88 rfl (info88 _)) rfl ⟨rfl, OO.out⟩
open Go.RowKit
def cf (t : NI) : Nat → Int
 | 0 => 0
 | k + 1 => (t k + cf t k) / 65536
def lo (t : NI) : Nat → Int := fun i => (t i + cf t i) % 65536
theorem lo_dig (t : NI) (n : Nat) : Dig (lo t) n := fun i _ => by unfold lo; omega
theorem pass_S (t : NI) : ∀ k, S (lo t) k + cf t k * 65536 ^ k = S t k
 | 0 => by simp [S, cf]
 | k + 1 => by
  have ih := pass_S t k
  have e : cf t (k + 1) * 65536 ^ (k + 1) = 65536 * cf t (k + 1) * 65536 ^ k := by rw [p16s, ← Int.mul_assoc, Int.mul_comm (cf t (k + 1)) 65536]
  have e2 : lo t k = t k + cf t k - 65536 * cf t (k + 1) := by
   simp only [lo, cf]
   omega
  simp only [S]
  rw [e, e2, Int.sub_mul, Int.add_mul]
  omega
theorem S_shift (f : NI) (n : Nat) : ∀ m, S f (n + m) = S f n + 65536 ^ n * S (fun i => f (n + i)) m
 | 0 => by simp [S]
 | m + 1 => by
  have ih := S_shift f n m
  rw [← Nat.add_assoc]
  simp only [S]
  rw [ih, Int.mul_add, Int.pow_add, Int.mul_left_comm, Int.add_assoc]
theorem S_zero (n : Nat) : S (fun _ => 0) n = 0 := by
 induction n with
 | zero => rfl
 | succ n ih => simp only [S, ih]; simp
def foldF (u : NI) : Nat → Int := fun i => if i < 16 then u i + 38 * u (16 + i) else 0
theorem fold_S (u : NI) : ∀ n, n ≤ 16 → S (foldF u) n = S u n + 38 * S (fun i => u (16 + i)) n
 | 0, _ => by simp [S]
 | n + 1, h => by
  have ih := fold_S u n (by omega)
  simp only [S]
  rw [ih, foldF, if_pos (by omega), Int.add_mul, Int.mul_add, Int.mul_assoc]
  omega
theorem S_upper_zero (f : NI) (h : ∀ i, 16 ≤ i → i < 32 → f i = 0) : S f 32 = S f 16 := by
 have e := S_shift f 16 16
 rw [show 16 + 16 = 32 from rfl] at e
 rw [e, S_congr (f := fun i => f (16 + i)) (g := fun _ => 0) fun i hi => h (16 + i) (by omega) (by omega), S_zero]
 simp
def T1 (t : NI) : Nat → Int := upd (foldF (lo t)) 0 (foldF (lo t) 0 + 1444 * cf t 32)
theorem S_upd0 (f : NI) (v : Int) : ∀ n, S (upd f 0 v) (n + 1) = S f (n + 1) - f 0 + v
 | 0 => by simp [S, upd]
 | n + 1 => by
  have ih := S_upd0 f v n
  show S (upd f 0 v) (n + 1) + upd f 0 v (n + 1) * 65536 ^ (n + 1) = S f (n + 1) + f (n + 1) * 65536 ^ (n + 1) - f 0 + v
  rw [ih]
  simp only [upd]
  rw [if_neg (by omega)]
  omega
theorem T1_up (t : NI) (i : Nat) (h : 16 ≤ i) : T1 t i = 0 := by
 unfold T1 upd foldF
 rw [if_neg (by omega), if_neg (by omega)]
theorem T1_S (t : NI) : Cg (S (T1 t) 32) (S t 32) := by
 rw [S_upper_zero (T1 t) fun i h _ => T1_up t i h]
 have e1 : S (T1 t) 16 = S (foldF (lo t)) 16 + 1444 * cf t 32 := by
  have h := S_upd0 (foldF (lo t)) (foldF (lo t) 0 + 1444 * cf t 32) 15
  rw [show 15 + 1 = 16 from rfl] at h
  unfold T1
  rw [h]
  omega
 have e2 := fold_S (lo t) 16 (by omega)
 have e3 := pass_S t 32
 have e4 := S_shift (lo t) 16 16
 rw [show 16 + 16 = 32 from rfl] at e4
 have p1 : (65536 : Int) ^ 16 = 2 * Pm + 38 := by decide
 have p2 : (65536 : Int) ^ 32 = (2 * Pm + 76) * (2 * Pm) + 1444 := by decide
 rw [e4, p2, p1] at e3
 rw [e1, e2]
 generalize S (fun i => lo t (16 + i)) 16 = h at *
 generalize S (lo t) 16 = l at *
 generalize cf t 32 = c at *
 refine ⟨- (2 * h) - c * ((2 * Pm + 76) * 2), ?_⟩
 rw [← e3]
 simp only [Int.mul_add, Int.add_mul, Int.sub_mul, Int.neg_mul, Int.mul_assoc, Int.mul_comm Pm]
 omega
structure B48 (t : NI) : Prop where
 b : ∀ i, i < 32 → 0 ≤ t i ∧ t i < 281474976710656
theorem cf_bd {t : NI} (h : B48 t) : ∀ k, k ≤ 32 → 0 ≤ cf t k ∧ cf t k ≤ 8589934592
 | 0, _ => by simp [cf]
 | k + 1, hk => by
  have ih := cf_bd h k (by omega)
  have := h.b k (by omega)
  simp only [cf]
  omega
def Jl : Nat → (Nat → Int) → Prop
 | 0, t => B48 t
 | 1, t => (∀ i, 16 ≤ i → i < 32 → t i = 0) ∧ (0 ≤ t 0 ∧ t 0 ≤ 17592186044416) ∧ ∀ i, 1 ≤ i → i < 16 → 0 ≤ t i ∧ t i ≤ 2555865
 | 2, t => (∀ i, 16 ≤ i → i < 32 → t i = 0) ∧ (0 ≤ t 0 ∧ t 0 ≤ 67100) ∧ ∀ i, 1 ≤ i → i < 16 → 0 ≤ t i ∧ t i ≤ 65535
 | _, t => (∀ i, 16 ≤ i → i < 32 → t i = 0) ∧ Dig t 16
theorem Jl.b48 {k : Nat} {t : NI} (hk : k ≤ 3) (h : Jl k t) : B48 t := by
 have hc : k = 0 ∨ k = 1 ∨ k = 2 ∨ k = 3 := by omega
 rcases hc with rfl | rfl | rfl | rfl
 ·exact h
 all_goals
  refine ⟨fun i hi => ?_⟩
  by_cases h16 : 16 ≤ i
  ·rw [h.1 i h16 hi]; omega
  ·first
   | (have := h.2 i (by omega); omega)
   | (by_cases h0 : i = 0
      ·have := h.2.1; rw [h0]; omega
      ·have := h.2.2 i (by omega) (by omega); omega)
theorem T1_low {t : NI} (hz : ∀ i, 16 ≤ i → i < 32 → t i = 0) (hc : 0 ≤ cf t 16 ∧ cf t 16 ≤ 65535) : T1 t 0 = lo t 0 + 38 * cf t 16 ∧ ∀ i, 1 ≤ i → i < 16 → T1 t i = lo t i := by
 have h17 : ∀ j, cf t (17 + j) = 0 ∨ 15 ≤ j := by
  intro j
  induction j with
  | zero => left; show (t 16 + cf t 16) / 65536 = 0; rw [hz 16 (by omega) (by omega)]; omega
  | succ j ih =>
   by_cases hj : 15 ≤ j + 1
   ·exact .inr hj
   ·left
    rcases ih with ih | ih
    ·show (t (17 + j) + cf t (17 + j)) / 65536 = 0
     rw [ih, hz (17 + j) (by omega) (by omega)]
     decide
    ·omega
 have h32 : cf t 32 = 0 := by
  have a : cf t 31 = 0 := by rcases h17 14 with h | h; · exact h
                             ·omega
  show (t 31 + cf t 31) / 65536 = 0
  rw [a, hz 31 (by omega) (by omega)]
  decide
 have hl : ∀ i, 1 ≤ i → i < 16 → lo t (16 + i) = 0 := by
  intro i h1 h2
  have a : cf t (16 + i) = 0 := by
   have := h17 (i - 1)
   rw [show 17 + (i - 1) = 16 + i by omega] at this
   rcases this with h | h
   ·exact h
   ·have : i = 16 := by omega
    omega
  unfold lo
  rw [a, hz (16 + i) (by omega) (by omega)]
  decide
 have h16 : lo t 16 = cf t 16 := by
  unfold lo
  rw [hz 16 (by omega) (by omega)]
  omega
 refine ⟨?_, fun i h1 h2 => ?_⟩
 ·unfold T1 upd
  rw [if_pos rfl, h32]
  unfold foldF
  rw [if_pos (by omega), Nat.add_zero, h16]
  omega
 ·unfold T1 upd
  rw [if_neg (by omega)]
  unfold foldF
  rw [if_pos h2, hl i h1 h2]
  omega
theorem Jl.next {k : Nat} {t : NI} (hk : k < 3) (h : Jl k t) : Jl (k + 1) (T1 t) := by
 have hB := h.b48 (by omega)
 have hc : k = 0 ∨ k = 1 ∨ k = 2 := by omega
 rcases hc with rfl | rfl | rfl
 ·have hcf := cf_bd hB 32 (by omega)
  have hlo := lo_dig t 32
  refine ⟨fun i a _ => T1_up t i a, ?_, fun i h1 h2 => ?_⟩
  ·unfold T1 upd foldF
   have := hlo 0 (by omega)
   have := hlo 16 (by omega)
   simp
   omega
  ·unfold T1 upd foldF
   have := hlo i (by omega)
   have := hlo (16 + i) (by omega)
   rw [if_neg (by omega), if_pos h2]
   omega
 ·obtain ⟨hz, h0, hi⟩ := h
  have c0 : cf t 0 = 0 := rfl
  have c1 : 0 ≤ cf t 1 ∧ cf t 1 ≤ 268435456 := by show 0 ≤ (t 0 + cf t 0) / 65536 ∧ (t 0 + cf t 0) / 65536 ≤ 268435456; rw [c0]; omega
  have c2 : 0 ≤ cf t 2 ∧ cf t 2 ≤ 5000 := by
   have := hi 1 (by omega) (by omega)
   show 0 ≤ (t 1 + cf t 1) / 65536 ∧ (t 1 + cf t 1) / 65536 ≤ 5000
   omega
  have c3 : ∀ j, 3 + j ≤ 16 → 0 ≤ cf t (3 + j) ∧ cf t (3 + j) ≤ 39 := by
   intro j
   induction j with
   | zero =>
    intro _
    have := hi 2 (by omega) (by omega)
    show 0 ≤ (t 2 + cf t 2) / 65536 ∧ (t 2 + cf t 2) / 65536 ≤ 39
    omega
   | succ j ih =>
    intro hj
    have ih := ih (by omega)
    have := hi (3 + j) (by omega) (by omega)
    show 0 ≤ (t (3 + j) + cf t (3 + j)) / 65536 ∧ (t (3 + j) + cf t (3 + j)) / 65536 ≤ 39
    omega
  have h16 := c3 13 (by omega)
  rw [show 3 + 13 = 16 from rfl] at h16
  have hT := T1_low hz (by omega)
  have hlo := lo_dig t 32
  refine ⟨fun i a _ => T1_up t i a, ?_, fun i h1 h2 => ?_⟩
  ·rw [hT.1]
   have := hlo 0 (by omega)
   omega
  ·rw [hT.2 i h1 h2]
   have := hlo i (by omega)
   omega
 ·obtain ⟨hz, h0, hi⟩ := h
  have c0 : cf t 0 = 0 := rfl
  have c1 : 0 ≤ cf t 1 ∧ cf t 1 ≤ 1 := by show 0 ≤ (t 0 + cf t 0) / 65536 ∧ (t 0 + cf t 0) / 65536 ≤ 1; rw [c0]; omega
  have c3 : ∀ j, 1 + j ≤ 16 → 0 ≤ cf t (1 + j) ∧ cf t (1 + j) ≤ cf t 1 := by
   intro j
   induction j with
   | zero => intro _; show 0 ≤ cf t 1 ∧ cf t 1 ≤ cf t 1; omega
   | succ j ih =>
    intro hj
    have ih := ih (by omega)
    have := hi (1 + j) (by omega) (by omega)
    show 0 ≤ (t (1 + j) + cf t (1 + j)) / 65536 ∧ (t (1 + j) + cf t (1 + j)) / 65536 ≤ cf t 1
    omega
  have h16 := c3 15 (by omega)
  rw [show 1 + 15 = 16 from rfl] at h16
  have hT := T1_low hz (by omega)
  have hlo := lo_dig t 32
  have e1 : cf t 1 = (t 0 + cf t 0) / 65536 := rfl
  have el : lo t 0 = (t 0 + cf t 0) % 65536 := rfl
  rw [c0] at e1 el
  refine ⟨fun i a _ => T1_up t i a, fun i h2 => ?_⟩
  by_cases hi0 : i = 0
  ·rw [hi0, hT.1]
   omega
  ·rw [hT.2 i (by omega) h2]
   exact hlo i (by omega)
def d16 (N : Int) : Nat → Int := fun i => N / 65536 ^ i % 65536
theorem S_inj {f g : NI} : ∀ {n : Nat}, Dig f n → Dig g n → S f n = S g n → ∀ i, i < n → f i = g i
 | 0, _, _, _, i, hi => by omega
 | n + 1, hf, hg, h, i, hi => by
  have bf := S_bd (hf.le (m := n) (by omega))
  have bg := S_bd (hg.le (m := n) (by omega))
  have hp := p16 n
  simp only [S] at h
  have hn : f n = g n := by
   apply Classical.byContradiction
   intro hne
   have : f n < g n ∨ g n < f n := by omega
   rcases this with hl | hl
   ·have : (g n - f n) * 65536 ^ n ≥ 1 * 65536 ^ n := Int.mul_le_mul_of_nonneg_right (by omega) (by omega)
    rw [Int.sub_mul] at this
    omega
   ·have : (f n - g n) * 65536 ^ n ≥ 1 * 65536 ^ n := Int.mul_le_mul_of_nonneg_right (by omega) (by omega)
    rw [Int.sub_mul] at this
    omega
  by_cases hin : i = n
  ·rw [hin]; exact hn
  ·refine S_inj (n := n) (hf.le (by omega)) (hg.le (by omega)) ?_ i (by omega)
   rw [hn] at h
   omega
theorem d16_dig (N : Int) (n : Nat) : Dig (d16 N) n := fun i _ => by unfold d16; omega
theorem d16_S (N : Int) (h0 : 0 ≤ N) : ∀ n, S (d16 N) n = N % 65536 ^ n
 | 0 => by simp [S]
 | n + 1 => by
  simp only [S]
  rw [d16_S N h0 n, d16, Int.pow_succ]
  have hp := p16 n
  generalize (65536 : Int) ^ n = X at *
  have a := Int.mul_ediv_add_emod N X
  have b := Int.mul_ediv_add_emod (N / X) 65536
  have r0 := Int.emod_nonneg N (by omega : X ≠ 0)
  have r1 := Int.emod_lt_of_pos N hp
  have hN : N = (N % X + N / X % 65536 * X) + X * 65536 * (N / X / 65536) := by
   have e : X * (N / X) = X * (65536 * (N / X / 65536) + N / X % 65536) := by rw [b]
   rw [Int.mul_add] at e
   rw [Int.mul_comm (N / X % 65536) X, Int.mul_assoc]
   omega
  have q : N / X % 65536 * X ≤ 65535 * X := Int.mul_le_mul_of_nonneg_right (by omega) (by omega)
  have q0 : 0 ≤ N / X % 65536 * X := Int.mul_nonneg (by omega) (by omega)
  have hM : N % (X * 65536) = (N % X + N / X % 65536 * X + X * 65536 * (N / X / 65536)) % (X * 65536) := by rw [← hN]
  rw [hM, Int.add_mul_emod_self_left]
  exact (Int.emod_eq_of_lt (by omega) (by omega)).symm
open Go.RowKit
structure EAt (W : World) (g : Nat) (x : E5) : Prop where
 size : g < W.heap.size
 free : ∀ o, W.frozen? ⟨g, o, none⟩ = false
 c0 : W.cell? ⟨g, 0, none⟩ = some (.int .u64 x.a)
 c1 : W.cell? ⟨g, 1, none⟩ = some (.int .u64 x.b)
 c2 : W.cell? ⟨g, 2, none⟩ = some (.int .u64 x.c)
 c3 : W.cell? ⟨g, 3, none⟩ = some (.int .u64 x.d)
 c4 : W.cell? ⟨g, 4, none⟩ = some (.int .u64 x.e)
theorem EAt.keep {W W' : World} {g : Nat} {x : E5} (h : EAt W g x) (hb : Below W.heap.size W W') : EAt W' g x :=
 ⟨Nat.lt_of_lt_of_le h.size hb.size, fun o => (hb.frozen (p := ⟨g, o, none⟩) h.size).trans (h.free o), (hb.cell (p := ⟨g, 0, none⟩) h.size).trans h.c0, (hb.cell (p := ⟨g, 1, none⟩) h.size).trans h.c1, (hb.cell (p := ⟨g, 2, none⟩) h.size).trans h.c2, (hb.cell (p := ⟨g, 3, none⟩) h.size).trans h.c3, (hb.cell (p := ⟨g, 4, none⟩) h.size).trans h.c4⟩
theorem EAt.new (W : World) (x : E5) (T : TypeId) : EAt (W.alloc (.cells #[.int .u64 x.a, .int .u64 x.b, .int .u64 x.c, .int .u64 x.d, .int .u64 x.e] T)) W.heap.size x := by
 refine ⟨by simp, ?_, ?_, ?_, ?_, ?_, ?_⟩ <;> simp [go_sem]
theorem EAt.alloc {W : World} {g : Nat} {x : E5} (h : EAt W g x) (o : Obj) : EAt (W.alloc o) g x := h.keep (new_below W o)
theorem EAt.k0 {W : World} {g : Nat} {x : E5} (h : EAt W g x) (s : KW W) : s.w.cell? ⟨g, 0, none⟩ = some (.int .u64 x.a) := (h.keep s.keep).c0
theorem EAt.k1 {W : World} {g : Nat} {x : E5} (h : EAt W g x) (s : KW W) : s.w.cell? ⟨g, 1, none⟩ = some (.int .u64 x.b) := (h.keep s.keep).c1
theorem EAt.k2 {W : World} {g : Nat} {x : E5} (h : EAt W g x) (s : KW W) : s.w.cell? ⟨g, 2, none⟩ = some (.int .u64 x.c) := (h.keep s.keep).c2
theorem EAt.k3 {W : World} {g : Nat} {x : E5} (h : EAt W g x) (s : KW W) : s.w.cell? ⟨g, 3, none⟩ = some (.int .u64 x.d) := (h.keep s.keep).c3
theorem EAt.k4 {W : World} {g : Nat} {x : E5} (h : EAt W g x) (s : KW W) : s.w.cell? ⟨g, 4, none⟩ = some (.int .u64 x.e) := (h.keep s.keep).c4
theorem KW.some (W : World) : Nonempty (KW W) := ⟨⟨W, Below.refl _ _⟩⟩
structure Out (w W : World) (g : Nat) : Prop where
 old : Below w.heap.size w W
 ge : w.heap.size ≤ g
 lie : EAt W g zeroE
theorem Out.keep {w W W' : World} {g : Nat} (h : Out w W g) (hb : Below W.heap.size W W') : Out w W' g := ⟨h.old.trans (hb.mono h.old.size), h.ge, h.lie.keep hb⟩
theorem Out.start1 (w : World) (o : Obj) : Out w ((w.alloc o).alloc (.cells #[.int .u64 0, .int .u64 0, .int .u64 0, .int .u64 0, .int .u64 0] 116)) (w.heap.size + 1) := by
 refine ⟨(new_below w o).trans ((new_below (w.alloc o) _).mono (by simp)), by omega, ?_⟩
 have h := EAt.new (w.alloc o) zeroE 116
 rwa [World.size_alloc] at h
theorem EAt.new1 (w : World) (x : E5) (o : Obj) : EAt ((w.alloc (.cells #[.int .u64 x.a, .int .u64 x.b, .int .u64 x.c, .int .u64 x.d, .int .u64 x.e] 116)).alloc o) w.heap.size x := (EAt.new w x 116).alloc o
theorem five {B g : Nat} {w w1 : World} (h : Below B w w1) (hg : B ≤ g) {u0 u1 u2 u3 u4 : Value} :
  Below B w (((((w1.setCell ⟨g, 0, none⟩ u0).setCell ⟨g, 1, none⟩ u1).setCell ⟨g, 2, none⟩ u2).setCell ⟨g, 3, none⟩ u3).setCell ⟨g, 4, none⟩ u4) :=
 ((((h.setCell (p := ⟨g, 0, none⟩) hg u0).setCell (p := ⟨g, 1, none⟩) hg u1).setCell (p := ⟨g, 2, none⟩) hg u2).setCell (p := ⟨g, 3, none⟩) hg u3).setCell (p := ⟨g, 4, none⟩) hg u4
theorem EAt.of_zero {W : World} {g : Nat} (h : W.heap[g]? = some (.cells #[.int .u64 0, .int .u64 0, .int .u64 0, .int .u64 0, .int .u64 0] 116)) : EAt W g zeroE := by
 have hlt : g < W.heap.size := by
  by_cases hlt : g < W.heap.size
  ·exact hlt
  ·have hn : W.heap[g]? = none := by simp; omega
   rw [hn] at h
   cases h
 refine ⟨hlt, fun o => by simp [World.frozen?, h], ?_, ?_, ?_, ?_, ?_⟩ <;> simp [World.cell?, h, zeroE]
abbrev put5 (W : World) (g : Nat) (z : E5) : World := ((((W.setCell ⟨g, 0, none⟩ (.int .u64 z.a)).setCell ⟨g, 1, none⟩ (.int .u64 z.b)).setCell ⟨g, 2, none⟩ (.int .u64 z.c)).setCell ⟨g, 3, none⟩ (.int .u64 z.d)).setCell ⟨g, 4, none⟩ (.int .u64 z.e)
theorem EAt.put {W : World} {g : Nat} {x : E5} (h : EAt W g x) (z : E5) : EAt (put5 W g z) g z := by
 obtain ⟨hs, hf, c0, c1, c2, c3, c4⟩ := h
 refine ⟨?_, ?_, ?_, ?_, ?_, ?_, ?_⟩ <;> simp [go_sem, hs, hf, c0, c1, c2, c3, c4]
theorem EAt.other {W : World} {g k : Nat} {x : E5} (h : EAt W g x) (hk : g ≠ k) (z : E5) : EAt (put5 W k z) g x := by
 obtain ⟨hs, hf, c0, c1, c2, c3, c4⟩ := h
 refine ⟨?_, ?_, ?_, ?_, ?_, ?_, ?_⟩ <;> simp [go_sem, hs, hf, c0, c1, c2, c3, c4]
theorem Out.other {w W : World} {g k : Nat} (h : Out w W g) (hk : g ≠ k) (hle : w.heap.size ≤ k) (z : E5) : Out w (put5 W k z) g := ⟨five h.old hle, h.ge, h.lie.other hk z⟩
open Go.RowKit
def ps (t : NI) (k : Nat) : Nat → Int := fun i => if i < k then lo t i else t i
def fs (u : NI) (k : Nat) : Nat → Int := fun i => if i < k then u i + 38 * u (16 + i) else if 16 ≤ i ∧ i < 16 + k then 0 else u i
theorem fs_step (u : NI) (m i : Nat) (hm : m < 16) (hi : i < 32) : upd (upd (fs u m) m (u m + 38 * u (16 + m))) (16 + m) 0 i = fs u (m + 1) i := by
 unfold upd fs
 repeat' split
 all_goals first | omega | (have e : i = m := by omega
                            subst e
                            omega)
theorem fs_last (t : NI) (i : Nat) (hi : i < 32) : upd (fs (lo t) 16) 0 (lo t 0 + 38 * lo t 16 + 1444 * cf t 32) i = T1 t i := by
 unfold T1 upd fs foldF
 by_cases h1 : i = 0
 ·simp [h1]
 ·rw [if_neg h1, if_neg h1]
  by_cases h2 : i < 16
  ·rw [if_pos h2, if_pos h2]
  ·rw [if_neg h2, if_neg h2, if_pos (by omega)]
theorem rowD {w : World} {g : Nat} {T : TypeId} {n : Nat} {f : NI} (h : Row w g T n f) : Row w.drew g T n f := h
theorem fin_eq {u : NI} {N : Int} (hU : Dig u 16) (hC : Cg (S u 16) N) (hlt : S u 16 < Pm) : arr 16 (d16 (N % Pm)) = arr 16 u := by
 have e := hC.emod
 have h0 := (S_bd hU).1
 rw [Int.emod_eq_of_lt h0 hlt] at e
 rw [← e]
 refine arr_congr (S_inj (d16_dig _ 16) hU ?_)
 rw [d16_S _ h0, Int.emod_eq_of_lt h0 (S_bd hU).2]
def meas (W : World) (g : Nat) : Nat :=
 match W.heap[g]? with
 | some (.cells cs _ _) => (S (fun i => intOf (cs.getD i undef)) 16).toNat
 | _ => 0
theorem meas_row {W : World} {g : Nat} {T : TypeId} {f : NI} (h : Row W g T 16 f) : meas W g = (S f 16).toNat := by
 unfold meas
 rw [h]
 show (S (fun i => intOf ((arr 16 f).getD i undef)) 16).toNat = _
 rw [S_congr (g := f) fun i hi => by
  rw [Array.getD_eq_getD_getElem?, arr_get 16 f i hi]
  rfl]
theorem reduce_any (t0 : NI) (w : World) (h0 : B48 t0) : Cs 59 #[.agg (arr 32 t0)] w (.agg (arr 16 (d16 (S t0 32 % Pm)))) := by
 go_enter Tryz.func59, Tryz.ntmps59
 go_wp2
 rw [show #[Value.int .u64 0, Value.int .u64 0, Value.int .u64 0, Value.int .u64 0, Value.int .u64 0, Value.int .u64 0, Value.int .u64 0, Value.int .u64 0, Value.int .u64 0, Value.int .u64 0, Value.int .u64 0, Value.int .u64 0, Value.int .u64 0, Value.int .u64 0, Value.int .u64 0, Value.int .u64 0] = arr 16 (fun _ => 0) from rfl]
 have R1 : Row ((w.alloc (.cells (arr 32 t0) 108)).alloc (.cells (arr 16 fun _ => 0) 88)) w.heap.size 108 32 t0 := (Row.new w 108 32 t0).alloc _
 have R2 : Row ((w.alloc (.cells (arr 32 t0) 108)).alloc (.cells (arr 16 fun _ => 0) 88)) (w.heap.size + 1) 88 16 (fun _ => 0) := Row.new' _ 88 16 _ (by simp)
 have O : Below w.heap.size w ((w.alloc (.cells (arr 32 t0) 108)).alloc (.cells (arr 16 fun _ => 0) 88)) := ((Below.refl _ _).alloc (Nat.le_refl _) _).alloc (by simp) _
 generalize (w.alloc (.cells (arr 32 t0) 108)).alloc (.cells (arr 16 fun _ => 0) 88) = W at R1 R2 O ⊢
 go_loopw [3] (fun r wr => ∃ k : Nat, k ≤ 3 ∧ r = .int .i64 k ∧ (∃ t, Jl k t ∧ Cg (S t 32) (S t0 32) ∧ Row wr w.heap.size 108 32 t) ∧ Row wr (w.heap.size + 1) 88 16 (fun _ => 0) ∧ Below w.heap.size w wr) (fun r _ => 3 - (intOf r).toNat)
 case atStart => exact ⟨0, by omega, rfl, ⟨t0, h0, Cg.refl _, R1⟩, R2, O⟩
 case round =>
  clear R1 R2 O
  obtain ⟨k, hk, rfl, ⟨t, hJ, hC, R1⟩, R2, O⟩ := hrel
  by_cases hlt : k < 3
  ·have hB := hJ.b48 hk
   have HJ := hide (hJ.next hlt)
   have HC := hide ((T1_S t).trans hC)
   clear hJ hC
   go_wp2
   go_loopw [4, 5] (fun c i wq => ∃ j : Nat, j ≤ 32 ∧ c = .int .u64 (cf t j) ∧ i = .int .i64 j ∧ Row wq w.heap.size 108 32 (ps t j) ∧ Row wq (w.heap.size + 1) 88 16 (fun _ => 0) ∧ Below w.heap.size w wq) (fun _ i _ => 32 - (intOf i).toNat)
   case atStart => exact ⟨0, by omega, rfl, rfl, R1.congr (fun i _ => by unfold ps; rw [if_neg (by omega)]), R2, O⟩
   case round =>
    clear R1 R2 O
    obtain ⟨j, hj, rfl, rfl, R1, R2, O⟩ := hrel
    by_cases hjl : j < 32
    ·have c := R1.cell hjl
     rw [show ps t j j = t j by unfold ps; rw [if_neg (by omega)]] at c
     have e := R1.free j
     obtain ⟨a0, a1⟩ := hB.b j hjl
     obtain ⟨b0, b1⟩ := cf_bd hB j (by omega)
     have ea := and16 (x := t j + cf t j) (by omega) (by omega)
     have HN := hide (show cf t (j + 1) = (t j + cf t j) / 65536 from rfl)
     have HL := hide (show lo t j = (t j + cf t j) % 65536 from rfl)
     have RR := hide (R1.set j ((t j + cf t j) % 65536))
     have R2' := hide (R2.other (a := ⟨w.heap.size, j, none⟩) (by simp) (.int .u64 ((t j + cf t j) % 65536)))
     have O' := hide (O.setCell (p := ⟨w.heap.size, j, none⟩) (by simp) (.int .u64 ((t j + cf t j) % 65536)))
     clear R1 R2 O
     go_wp2
     go_roundw
     case rel => exact ⟨j + 1, by omega, by rw [HN.out], by go_num, RR.out.congr (fun i _ => by
      unfold upd ps
      by_cases h : i = j
      ·subst h
       simp [HL.out]
      ·by_cases h2 : i < j
       ·simp [h, h2, show i < j + 1 by omega]
       ·simp [h, h2, show ¬ i < j + 1 by omega]), R2'.out, O'.out⟩
     case measure => simp [intOf]; omega
    ·have hj' : j = 32 := by omega
     subst hj'
     have R1' : Row wr w.heap.size 108 32 (fs (lo t) 0) := R1.congr (fun i hi => by
      unfold ps fs
      rw [if_pos hi, if_neg (by omega), if_neg (by omega)])
     have hlo := lo_dig t 32
     have hcf := cf_bd hB 32 (by omega)
     clear R1
     go_wp2
     go_loopw [7] (fun i wq => ∃ m : Nat, m ≤ 16 ∧ i = .int .i64 m ∧ Row wq w.heap.size 108 32 (fs (lo t) m) ∧ Row wq (w.heap.size + 1) 88 16 (fun _ => 0) ∧ Below w.heap.size w wq) (fun i _ => 16 - (intOf i).toNat)
     case atStart => exact ⟨0, by omega, rfl, R1', R2, O⟩
     case round =>
      clear R1' R2 O
      obtain ⟨m, hm, rfl, R1, R2, O⟩ := hrel
      by_cases hml : m < 16
      ·have c := R1.cell (i := m) (by omega)
       have d := R1.cell (i := 16 + m) (by omega)
       rw [show fs (lo t) m m = lo t m by unfold fs; rw [if_neg (by omega), if_neg (by omega)]] at c
       rw [show fs (lo t) m (16 + m) = lo t (16 + m) by unfold fs; rw [if_neg (by omega), if_neg (by omega)]] at d
       have e := R1.free
       obtain ⟨a0, a1⟩ := hlo m (by omega)
       obtain ⟨b0, b1⟩ := hlo (16 + m) (by omega)
       have i1 : (0 : Int) ≤ (m : Int) := by omega
       have i2 : (m : Int) < 16 := by omega
       clear hlo hcf hB
       go_wp2_with fail
       go_region
       go_wp2
       exact ⟨⟨m + 1, by omega, by go_num, rowD (((R1.set m (lo t m + 38 * lo t (16 + m))).set (16 + m) 0).congr (fun i hi => fs_step (lo t) m i hml hi)), rowD ((R2.other (a := ⟨w.heap.size, m, none⟩) (by simp) _).other (a := ⟨w.heap.size, 16 + m, none⟩) (by simp) _), ((O.setCell (p := ⟨w.heap.size, m, none⟩) (Nat.le_refl _) _).setCell (p := ⟨w.heap.size, 16 + m, none⟩) (Nat.le_refl _) _).drew⟩, by simp [intOf]; omega⟩
      ·have hm' : m = 16 := by omega
       subst hm'
       have c := R1.cell (i := 0) (by omega)
       have e := R1.free 0
       rw [show fs (lo t) 16 0 = lo t 0 + 38 * lo t 16 by unfold fs; rw [if_pos (by omega)]] at c
       obtain ⟨a0, a1⟩ := hlo 0 (by omega)
       obtain ⟨b0, b1⟩ := hlo 16 (by omega)
       obtain ⟨f0, f1⟩ := hcf
       have RR := hide ((R1.set 0 (lo t 0 + 38 * lo t 16 + 1444 * cf t 32)).congr (f' := T1 t) (fun i hi => fs_last t i hi))
       have R2' := hide (R2.other (a := ⟨w.heap.size, 0, none⟩) (by simp) (.int .u64 (lo t 0 + 38 * lo t 16 + 1444 * cf t 32)))
       have O' := hide (O.setCell (p := ⟨w.heap.size, 0, none⟩) (Nat.le_refl _) (.int .u64 (lo t 0 + 38 * lo t 16 + 1444 * cf t 32)))
       clear R1 R2 O hlo hB
       go_wp2
       exact ⟨⟨k + 1, by omega, by go_num, ⟨T1 t, HJ.out, HC.out, RR.out⟩, R2'.out, O'.out⟩, by simp [intOf]; omega⟩
  ·have hk' : k = 3 := by omega
   subst hk'
   obtain ⟨hz, hD⟩ := hJ
   have HV := hide (show Cg (S t 16) (S t0 32) by rw [← S_upper_zero t hz]; exact hC)
   clear hC hlt hk
   go_wp2
   go_loopw [8] (fun r wq => ∃ k : Nat, k ≤ 3 ∧ r = .int .i64 k ∧ Row wq w.heap.size 108 32 t ∧ Row wq (w.heap.size + 1) 88 16 (fun _ => 0) ∧ Below w.heap.size w wq) (fun r _ => 3 - (intOf r).toNat)
   case atStart => exact ⟨0, by omega, rfl, R1, R2, O⟩
   case round =>
    clear R1 R2 O
    obtain ⟨k, hk, rfl, R1, R2, O⟩ := hrel
    by_cases hlt : k < 3
    ·go_wp2
     go_loopw [9, 10] (fun c i wq => ∃ j : Nat, j ≤ 16 ∧ c = .int .u64 0 ∧ i = .int .i64 j ∧ Row wq w.heap.size 108 32 t ∧ Row wq (w.heap.size + 1) 88 16 (fun _ => 0) ∧ Below w.heap.size w wq) (fun _ i _ => 16 - (intOf i).toNat)
     case atStart => exact ⟨0, by omega, rfl, rfl, R1, R2, O⟩
     case round =>
      clear R1 R2 O
      obtain ⟨j, hj, rfl, rfl, R1, R2, O⟩ := hrel
      by_cases hjl : j < 16
      ·have c := R1.cell (i := j) (by omega)
       have e := R1.free j
       obtain ⟨a0, a1⟩ := hD j hjl
       have ea : bits BinOp.and IntKind.u64 (t j) 65535 = t j := by rw [and16 a0 (by omega)]; omega
       have ed : t j / 65536 = 0 := by omega
       have RR := hide ((R1.set j (t j)).congr (f' := t) (fun i _ => by unfold upd; by_cases h : i = j <;> simp [h]))
       have R2' := hide (R2.other (a := ⟨w.heap.size, j, none⟩) (by simp) (.int .u64 (t j)))
       have O' := hide (O.setCell (p := ⟨w.heap.size, j, none⟩) (Nat.le_refl _) (.int .u64 (t j)))
       clear R1 R2 O
       go_wp2
       go_roundw
       case rel => exact ⟨j + 1, by omega, rfl, by go_num, RR.out, R2'.out, O'.out⟩
       case measure => simp [intOf]; omega
      ·have hj' : j = 16 := by omega
       subst hj'
       have c := R1.cell (i := 0) (by omega)
       have e := R1.free 0
       obtain ⟨a0, a1⟩ := hD 0 (by omega)
       have RR := hide ((R1.set 0 (t 0)).congr (f' := t) (fun i _ => by unfold upd; by_cases h : i = 0 <;> simp [h]))
       have R2' := hide (R2.other (a := ⟨w.heap.size, 0, none⟩) (by simp) (.int .u64 (t 0)))
       have O' := hide (O.setCell (p := ⟨w.heap.size, 0, none⟩) (Nat.le_refl _) (.int .u64 (t 0)))
       clear R1 R2 O
       go_wp2
       exact ⟨⟨k + 1, by omega, by go_num, RR.out, R2'.out, O'.out⟩, by simp [intOf]; omega⟩
    ·have hk' : k = 3 := by omega
     subst hk'
     go_wp2
     rw [show #[Value.int .u64 0, Value.int .u64 0, Value.int .u64 0, Value.int .u64 0, Value.int .u64 0, Value.int .u64 0, Value.int .u64 0, Value.int .u64 0, Value.int .u64 0, Value.int .u64 0, Value.int .u64 0, Value.int .u64 0, Value.int .u64 0, Value.int .u64 0, Value.int .u64 0, Value.int .u64 0] = arr 16 (fun _ => 0) from rfl]
     have hg := R2.lt
     have R3 : Row (wr.alloc (.cells (arr 16 fun _ => 0) 88)) wr.heap.size 88 16 (fun _ => 0) := Row.new _ 88 16 _
     replace R1 := R1.alloc (.cells (arr 16 fun _ => 0) 88)
     replace R2 := R2.alloc (.cells (arr 16 fun _ => 0) 88)
     replace O := O.alloc (by omega) (.cells (arr 16 fun _ => 0) 88)
     generalize wr.heap.size = gN at *
     generalize wr.alloc (.cells (arr 16 fun _ => 0) 88) = W6 at *
     go_loopw [13] (fun i wq => ∃ m : Nat, m ≤ 16 ∧ i = .int .i64 m ∧ Row wq w.heap.size 108 32 t ∧ Row wq (w.heap.size + 1) 88 16 (fun _ => 0) ∧ Row wq gN 88 16 (wid t m) ∧ Below w.heap.size w wq) (fun i _ => 16 - (intOf i).toNat)
     case atStart => exact ⟨0, by omega, rfl, R1, R2, R3, O⟩
     case round =>
      clear R1 R2 R3 O
      obtain ⟨m, hm, rfl, R1, R2, R3, O⟩ := hrel
      by_cases hml : m < 16
      ·have c := R1.cell (i := m) (by omega)
       have d := R3.cell (i := m) (by omega)
       have e := R3.free m
       have RR := hide ((R3.set m (t m)).congr (f' := wid t (m + 1)) (fun i _ => by unfold upd wid; by_cases h : i = m <;> simp [h] <;> omega))
       have R1' := hide (R1.other (a := ⟨gN, m, none⟩) (by simp; omega) (.int .u64 (t m)))
       have R2' := hide (R2.other (a := ⟨gN, m, none⟩) (by simp; omega) (.int .u64 (t m)))
       have O' := hide (O.setCell (p := ⟨gN, m, none⟩) (by simp; omega) (.int .u64 (t m)))
       clear R1 R2 R3 O
       go_wp2
       go_roundw
       case rel => exact ⟨m + 1, by omega, by go_num, R1'.out, R2'.out, RR.out, O'.out⟩
       case measure => simp [intOf]; omega
      ·have hm' : m = 16 := by omega
       subst hm'
       replace R3 := R3.congr (f' := t) (fun i hi => by unfold wid; rw [if_pos hi])
       clear R1 hz hml hm
       go_wp2_with fail
       go_loopw [91] (fun _ wq => ∃ u : Nat → Int, Dig u 16 ∧ Cg (S u 16) (S t0 32) ∧ Row wq (w.heap.size + 1) 88 16 (fun _ => 0) ∧ Row wq gN 88 16 u ∧ Below w.heap.size w wq) (fun _ wq => meas wq gN)
       case atStart => exact ⟨t, hD, HV.out, R2, R3, O⟩
       case round =>
        clear R2 R3 O HV hD
        obtain ⟨u, hU, hC, R2, R3, O⟩ := hrel
        have HC := hide hC
        clear hC
        have hne := KW.some wr
        have hg3 : ∀ w', (∃ s : KW wr, w' = s.w) → w'.heap[gN]? = some (.cells (arr 16 u) 88 (0, 0)) := by
         rintro _ ⟨s, rfl⟩
         exact R3.keep s.keep
        have HG := hide hg3
        clear hg3
        go_wp2_with fail
        refine wp_region_keep (by kernel_rfl) (by kernel_rfl) ?_
        go_big_quiet_want
        refine quiet_load_row 88 _ rfl gN rfl 88 (arr 16 u) (0, 0) _ HG.out Tryz.underlying88 rfl (info88 _) ?_
        go_simp
        go_big_quiet_on
        go_big_quiet_step ((exact keep_of (prime_any _)))
        go_big_quiet_step ((exact keep_of (less_any u pF _ hU pF_dig)))
        rw [pF_S]
        by_cases hlt : S u 16 < Pm
        ·rw [decide_eq_true hlt]
         go_big_quiet_step (fail)
         refine wpQuiet_nil ?_
         intro s
         replace R2 := R2.keep s.keep
         replace R3 := R3.keep s.keep
         replace O := O.trans (s.keep.mono O.size)
         generalize s.w = W7 at R2 R3 O ⊢
         have RR := hide (R2.setAll u)
         have OO := hide (below_setCells (g := w.heap.size + 1) (by omega) (arr 16 u).toList 0 O)
         have HE := hide (fin_eq hU HC.out hlt)
         clear HG hne hlt
         go_wp2_with (first | (refine wpList_load_row rfl 88 _ rfl gN rfl 88 (arr 16 u) (0, 0) _ R3 Tryz.underlying88 rfl (info88 _) ?_) | (refine wpList_store_mid rfl 88 _ _ rfl (w.heap.size + 1) 0 (arr 16 u) rfl rfl (by rw [arr_size]; exact R2.there) (info88 _) (arr_one _ _) ?_))
         exact bodyPost_ret (v := .agg (arr 16 u)) (results_cell_row Tryz.results59 _ _ (w.heap.size + 1) 88 (arr 16 u) (0, 0) _ rfl RR.out Tryz.underlying88 rfl (info88 _)) rfl ⟨by rw [HE.out], OO.out⟩
        ·rw [decide_eq_false hlt]
         go_big_quiet_step (fail)
         refine wpQuiet_nil ?_
         intro s
         have HM := hide (meas_row R3)
         replace R2 := R2.keep s.keep
         replace R3 := R3.keep s.keep
         replace O := O.trans (s.keep.mono O.size)
         generalize s.w = W7 at R2 R3 O ⊢
         have hle : S pF 16 ≤ S u 16 := by rw [pF_S]; omega
         have HS := hide (minus_le hU pF_dig hle)
         have HL := hide hle
         clear HG hne hlt hle
         have hne := KW.some W7
         have hg3 : ∀ w', (∃ s : KW W7, w' = s.w) → w'.heap[gN]? = some (.cells (arr 16 u) 88 (0, 0)) := by
          rintro _ ⟨s, rfl⟩
          exact R3.keep s.keep
         have HG := hide hg3
         clear hg3
         go_wp2_with fail
         refine wp_region_keep_tail 3 (by kernel_rfl) (by kernel_rfl) ?_
         simp only [List.take_succ_cons, List.take_zero, List.drop_succ_cons, List.drop_zero]
         go_big_quiet_want
         refine quiet_load_row 88 _ rfl gN rfl 88 (arr 16 u) (0, 0) _ HG.out Tryz.underlying88 rfl (info88 _) ?_
         go_simp
         go_big_quiet_on
         go_big_quiet_step ((exact keep_of (prime_any _)))
         go_big_quiet_step ((exact keep_of (minus_any u pF _ hU pF_dig)))
         refine wpQuiet_nil ?_
         intro s
         replace R2 := R2.keep s.keep
         replace R3 := R3.keep s.keep
         replace O := O.trans (s.keep.mono O.size)
         generalize s.w = W8 at R2 R3 O ⊢
         have RR := hide (R3.setAll (minusF u pF))
         have R2' := hide (R2.setOther (k := gN) (by omega) 0 (arr 16 (minusF u pF)).toList)
         have OO := hide (below_setCells (g := gN) (by omega) (arr 16 (minusF u pF)).toList 0 O)
         clear HG hne
         go_wp2_with (refine wpList_store_mid rfl 88 _ _ rfl gN 0 (arr 16 (minusF u pF)) rfl rfl (by rw [arr_size]; exact R3.there) (info88 _) (arr_one _ _) ?_)
         refine ⟨⟨_, _, _, _, _, _, _, ⟨minusF u pF, minusF_dig u pF 16, ?_, R2'.out, RR.out, OO.out⟩, rfl⟩, ?_⟩
         ·rw [HS.out, pF_S]
          have := Cg.sub_P (S u 16) 1
          rw [Int.one_mul] at this
          exact this.trans HC.out
         ·rw [meas_row RR.out, HM.out, HS.out, pF_S]
          have := HL.out
          rw [pF_S] at this
          unfold Pm at *
          omega
open Go.RowKit
theorem carR {a b : Int} (ha : W64 a) (hb : W64 b) : IntKind.u64.wrap (bits BinOp.and IntKind.u64 b 2251799813685247 + a / 2251799813685248) = b % 2251799813685248 + a / 2251799813685248 := by
 rw [and51 hb]
 unfold W64 at *
 exact wrap64u ⟨by omega, by omega⟩
theorem carR0 {a b : Int} (ha : W64 a) (hb : W64 b) : IntKind.u64.wrap (bits BinOp.and IntKind.u64 b 2251799813685247 + IntKind.u64.wrap (a / 2251799813685248 * 19)) = b % 2251799813685248 + a / 2251799813685248 * 19 := by
 rw [and51 hb]
 unfold W64 at *
 rw [wrap64u (x := a / 2251799813685248 * 19) ⟨by omega, by omega⟩]
 exact wrap64u ⟨by omega, by omega⟩
theorem carried_any (a b c d e : Int) (w : World) (ha : W64 a) (hb : W64 b) (hc : W64 c) (hd : W64 d) (he : W64 e) : Calls Tryz.prog 105 #[.int .u64 a, .int .u64 b, .int .u64 c, .int .u64 d, .int .u64 e] w fun r w' => r = .returned (car a b c d e).v ∧ Below w.heap.size w w' := by
 go_enter Tryz.func105, Tryz.ntmps105
 go_wp2
 rw [carR0 he ha, carR ha hb, carR hb hc, carR hc hd, carR hd he]
 exact bodyPost_ret (v := (car a b c d e).v) (by simp [results, Tryz.results105, go_sem, car]) rfl ⟨rfl, (Below.refl _ _).alloc (Nat.le_refl _) _⟩
theorem bcell {W w1 : World} (hb : Below W.heap.size W w1) : (∀ b o, b < W.heap.size → w1.cell? ⟨b, o, none⟩ = W.cell? ⟨b, o, none⟩) ∧ (∀ b o, b < W.heap.size → w1.frozen? ⟨b, o, none⟩ = W.frozen? ⟨b, o, none⟩) :=
 ⟨fun b o h => hb.cell (p := ⟨b, o, none⟩) h, fun b o h => hb.frozen (p := ⟨b, o, none⟩) h⟩
theorem below3 {w w1 : World} {A B C : Obj} (hb : Below (((w.alloc A).alloc B).alloc C).heap.size (((w.alloc A).alloc B).alloc C) w1) : Below w.heap.size w w1 :=
 ((((Below.refl _ _).alloc (Nat.le_refl _) _).alloc (by simp) _).alloc (by simp; omega) _).trans (hb.mono (by simp; omega))
theorem below2 {w w1 : World} {A B : Obj} (hb : Below ((w.alloc A).alloc B).heap.size ((w.alloc A).alloc B) w1) : Below w.heap.size w w1 :=
 (((Below.refl _ _).alloc (Nat.le_refl _) _).alloc (by simp) _).trans (hb.mono (by simp; omega))
theorem below1 {w w1 : World} {A : Obj} (hb : Below (w.alloc A).heap.size (w.alloc A) w1) : Below w.heap.size w w1 :=
 ((Below.refl _ _).alloc (Nat.le_refl _) _).trans (hb.mono (by simp))
theorem set5 {B g : Nat} {w w1 : World} (h : Below B w w1) (hg : B ≤ g) {u0 u1 u2 u3 u4 : Value} :
  Below B w (((((w1.setCell ⟨g, 0, none⟩ u0).setCell ⟨g, 1, none⟩ u1).setCell ⟨g, 2, none⟩ u2).setCell ⟨g, 3, none⟩ u3).setCell ⟨g, 4, none⟩ u4) :=
 ((((h.setCell (p := ⟨g, 0, none⟩) hg u0).setCell (p := ⟨g, 1, none⟩) hg u1).setCell (p := ⟨g, 2, none⟩) hg u2).setCell (p := ⟨g, 3, none⟩) hg u3).setCell (p := ⟨g, 4, none⟩) hg u4
theorem add_any (x y : E5) (w : World) (hx : x.Ok) (hy : y.Ok) : Calls Tryz.prog 120 #[x.v, y.v] w fun r w' => r = .returned (addF x y).v ∧ Below w.heap.size w w' := by
 obtain ⟨a0, a1, b0, b1, c0, c1, d0, d1, e0, e1⟩ := hx
 obtain ⟨f0, f1, g0, g1, h0, h1, i0, i1, j0, j1⟩ := hy
 go_enter Tryz.func120, Tryz.ntmps120
 go_wp2_with fail
 refine (carried_any _ _ _ _ _ _ ⟨by omega, by omega⟩ ⟨by omega, by omega⟩ ⟨by omega, by omega⟩ ⟨by omega, by omega⟩ ⟨by omega, by omega⟩).mono ?_
 rintro _ w1 ⟨rfl, hb⟩
 obtain ⟨z, hz⟩ : ∃ z, addF x y = z := ⟨_, rfl⟩
 have hz' := hz
 unfold addF at hz'
 rw [hz']
 have H := hide hz
 have H3 := hide (below3 hb)
 obtain ⟨hc, hf⟩ := bcell hb
 have hs : w.heap.size + 1 + 1 < w1.heap.size := by have := hb.size; simp at this; omega
 clear hz hz' hb a0 a1 b0 b1 c0 c1 d0 d1 e0 e1 f0 f1 g0 g1 h0 h1 i0 i1 j0 j1
 go_wp2
 refine bodyPost_ret (v := z.v) (by simp [results, Tryz.results120, go_sem, hc]) rfl ⟨by rw [H.out], ?_⟩
 exact set5 H3.out (by omega)
theorem sub_any (x y : E5) (w : World) (hx : x.Ok) (hy : y.Ok) : Calls Tryz.prog 121 #[x.v, y.v] w fun r w' => r = .returned (subF x y).v ∧ Below w.heap.size w w' := by
 obtain ⟨a0, a1, b0, b1, c0, c1, d0, d1, e0, e1⟩ := hx
 obtain ⟨f0, f1, g0, g1, h0, h1, i0, i1, j0, j1⟩ := hy
 go_enter Tryz.func121, Tryz.ntmps121
 go_wp2_with fail
 refine (carried_any _ _ _ _ _ _ ⟨by omega, by omega⟩ ⟨by omega, by omega⟩ ⟨by omega, by omega⟩ ⟨by omega, by omega⟩ ⟨by omega, by omega⟩).mono ?_
 rintro _ w1 ⟨rfl, hb⟩
 obtain ⟨z, hz⟩ : ∃ z, subF x y = z := ⟨_, rfl⟩
 have hz' := hz
 unfold subF at hz'
 rw [hz']
 have H := hide hz
 have H3 := hide (below3 hb)
 obtain ⟨hc, hf⟩ := bcell hb
 have hs : w.heap.size + 1 + 1 < w1.heap.size := by have := hb.size; simp at this; omega
 clear hz hz' hb a0 a1 b0 b1 c0 c1 d0 d1 e0 e1 f0 f1 g0 g1 h0 h1 i0 i1 j0 j1
 go_wp2
 refine bodyPost_ret (v := z.v) (by simp [results, Tryz.results121, go_sem, hc]) rfl ⟨by rw [H.out], ?_⟩
 exact set5 H3.out (by omega)
theorem small_any (n : Int) (w : World) (h0 : 0 ≤ n) (h1 : n < 4294967296) : Calls Tryz.prog 75 #[.int .u32 n] w fun r w' => r = .returned (smallF n).v ∧ Below w.heap.size w w' := by
 go_enter Tryz.func75, Tryz.ntmps75
 go_wp2_with fail
 refine (carried_any _ _ _ _ _ _ ⟨by omega, by omega⟩ ⟨by decide, by decide⟩ ⟨by decide, by decide⟩ ⟨by decide, by decide⟩ ⟨by decide, by decide⟩).mono ?_
 rintro _ w1 ⟨rfl, hb⟩
 obtain ⟨z, hz⟩ : ∃ z, smallF n = z := ⟨_, rfl⟩
 have hz' := hz
 unfold smallF at hz'
 rw [hz']
 have H := hide hz
 have H3 := hide (below1 hb)
 obtain ⟨hc, hf⟩ := bcell hb
 have hs : w.heap.size < w1.heap.size := by have := hb.size; simp at this; omega
 clear hz hz' hb
 go_wp2
 refine bodyPost_ret (v := z.v) (by simp [results, Tryz.results75, go_sem, hc]) rfl ⟨by rw [H.out], ?_⟩
 exact set5 H3.out (by omega)
open Go.RowKit
def ov1 (x : E5) : Int := (x.a + 19) / 2251799813685248
def ov2 (x : E5) : Int := (x.b + ov1 x) / 2251799813685248
def ov3 (x : E5) : Int := (x.c + ov2 x) / 2251799813685248
def ov4 (x : E5) : Int := (x.d + ov3 x) / 2251799813685248
def ov5 (x : E5) : Int := (x.e + ov4 x) / 2251799813685248
def le0 (x : E5) : Int := ov5 x * 19
def le1 (x : E5) : Int := (x.a + le0 x) / 2251799813685248
def le2 (x : E5) : Int := (x.b + le1 x) / 2251799813685248
def le3 (x : E5) : Int := (x.c + le2 x) / 2251799813685248
def le4 (x : E5) : Int := (x.d + le3 x) / 2251799813685248
def le5 (x : E5) : Int := (x.e + le4 x) / 2251799813685248
def leastF (x : E5) : E5 := ⟨(x.a + le0 x) % 2251799813685248, (x.b + le1 x) % 2251799813685248, (x.c + le2 x) % 2251799813685248, (x.d + le3 x) % 2251799813685248, (x.e + le4 x) % 2251799813685248⟩
structure LB (x : E5) : Prop where
 o1 : 0 ≤ ov1 x ∧ ov1 x ≤ 1
 o2 : 0 ≤ ov2 x ∧ ov2 x ≤ 1
 o3 : 0 ≤ ov3 x ∧ ov3 x ≤ 1
 o4 : 0 ≤ ov4 x ∧ ov4 x ≤ 1
 o5 : 0 ≤ ov5 x ∧ ov5 x ≤ 1
 l0 : 0 ≤ le0 x ∧ le0 x ≤ 19
 l1 : 0 ≤ le1 x ∧ le1 x ≤ 1
 l2 : 0 ≤ le2 x ∧ le2 x ≤ 1
 l3 : 0 ≤ le3 x ∧ le3 x ≤ 1
 l4 : 0 ≤ le4 x ∧ le4 x ≤ 1
 l5 : 0 ≤ le5 x ∧ le5 x ≤ 1
theorem LB.of {x : E5} (hx : x.Ok) : LB x := by
 obtain ⟨a0, a1, b0, b1, c0, c1, d0, d1, e0, e1⟩ := hx
 have o1 : 0 ≤ ov1 x ∧ ov1 x ≤ 1 := by unfold ov1; omega
 have o2 : 0 ≤ ov2 x ∧ ov2 x ≤ 1 := by unfold ov2; omega
 have o3 : 0 ≤ ov3 x ∧ ov3 x ≤ 1 := by unfold ov3; omega
 have o4 : 0 ≤ ov4 x ∧ ov4 x ≤ 1 := by unfold ov4; omega
 have o5 : 0 ≤ ov5 x ∧ ov5 x ≤ 1 := by unfold ov5; omega
 have l0 : 0 ≤ le0 x ∧ le0 x ≤ 19 := by unfold le0; omega
 have l1 : 0 ≤ le1 x ∧ le1 x ≤ 1 := by unfold le1; omega
 have l2 : 0 ≤ le2 x ∧ le2 x ≤ 1 := by unfold le2; omega
 have l3 : 0 ≤ le3 x ∧ le3 x ≤ 1 := by unfold le3; omega
 have l4 : 0 ≤ le4 x ∧ le4 x ≤ 1 := by unfold le4; omega
 have l5 : 0 ≤ le5 x ∧ le5 x ≤ 1 := by unfold le5; omega
 exact ⟨o1, o2, o3, o4, o5, l0, l1, l2, l3, l4, l5⟩
structure E5.Low (x : E5) : Prop where
 a0 : 0 ≤ x.a
 a1 : x.a < 2251799813685248
 b0 : 0 ≤ x.b
 b1 : x.b < 2251799813685248
 c0 : 0 ≤ x.c
 c1 : x.c < 2251799813685248
 d0 : 0 ≤ x.d
 d1 : x.d < 2251799813685248
 e0 : 0 ≤ x.e
 e1 : x.e < 2251799813685248
theorem leastF_low (x : E5) : (leastF x).Low := by
 constructor <;> simp only [leastF] <;> omega
theorem leastF_n {x : E5} (hx : x.Ok) : (leastF x).n = x.n % Pm := by
 have L := LB.of hx
 obtain ⟨a0, a1, b0, b1, c0, c1, d0, d1, e0, e1⟩ := hx
 have hlow := leastF_low x
 obtain ⟨p0, p1, q0, q1, r0, r1, s0, s1, t0, t1⟩ := hlow
 have e : (leastF x).n = x.n + ov5 x * 19 - 57896044618658097711785492504343953926634992332820282019728792003956564819968 * le5 x := by
  simp only [leastF, E5.n, le5, le4, le3, le2, le1, le0]
  omega
 have hov : 57896044618658097711785492504343953926634992332820282019728792003956564819968 * ov5 x ≤ x.n + 19 ∧ x.n + 19 < 57896044618658097711785492504343953926634992332820282019728792003956564819968 * ov5 x + 57896044618658097711785492504343953926634992332820282019728792003956564819968 := by
  simp only [E5.n, ov5, ov4, ov3, ov2, ov1]
  omega
 have hn0 : 0 ≤ x.n := by simp only [E5.n]; omega
 have hr0 : 0 ≤ (leastF x).n := by rw [E5.n]; omega
 have hr1 : (leastF x).n < 57896044618658097711785492504343953926634992332820282019728792003956564819968 := by rw [E5.n]; omega
 have h5 := L.o5
 have h6 := L.l5
 have hle : le5 x = ov5 x := by omega
 rw [hle] at e
 have hk : x.n = (leastF x).n + ov5 x * Pm := by unfold Pm; omega
 have hn1 : x.n < 115792089237316195423570985008687907853269984665640564039457584007913129639898 := by simp only [E5.n]; omega
 have hlt : (leastF x).n < Pm := by unfold Pm; omega
 rw [hk, Int.add_mul_emod_self_right, Int.emod_eq_of_lt hr0 hlt]
theorem least_any (x : E5) (w : World) (hx : x.Ok) : Calls Tryz.prog 95 #[x.v] w fun r w' => r = .returned (leastF x).v ∧ Below w.heap.size w w' := by
 have L := LB.of hx
 obtain ⟨a0, a1, b0, b1, c0, c1, d0, d1, e0, e1⟩ := hx
 obtain ⟨⟨o10, o11⟩, ⟨o20, o21⟩, ⟨o30, o31⟩, ⟨o40, o41⟩, ⟨o50, o51⟩, ⟨l00, l01⟩, ⟨l10, l11⟩, ⟨l20, l21⟩, ⟨l30, l31⟩, ⟨l40, l41⟩, ⟨l50, l51⟩⟩ := L
 have i0 : ∀ w, (Instr.index 114 (.agg #[.int .u64 x.a, .int .u64 x.b, .int .u64 x.c, .int .u64 x.d, .int .u64 x.e]) (.int .i64 0)).run Tryz.prog w = .ok (.int .u64 x.a) w := fun _ => by kernel_rfl
 have i1 : ∀ w, (Instr.index 114 (.agg #[.int .u64 x.a, .int .u64 x.b, .int .u64 x.c, .int .u64 x.d, .int .u64 x.e]) (.int .i64 1)).run Tryz.prog w = .ok (.int .u64 x.b) w := fun _ => by kernel_rfl
 have i2 : ∀ w, (Instr.index 114 (.agg #[.int .u64 x.a, .int .u64 x.b, .int .u64 x.c, .int .u64 x.d, .int .u64 x.e]) (.int .i64 2)).run Tryz.prog w = .ok (.int .u64 x.c) w := fun _ => by kernel_rfl
 have i3 : ∀ w, (Instr.index 114 (.agg #[.int .u64 x.a, .int .u64 x.b, .int .u64 x.c, .int .u64 x.d, .int .u64 x.e]) (.int .i64 3)).run Tryz.prog w = .ok (.int .u64 x.d) w := fun _ => by kernel_rfl
 have i4 : ∀ w, (Instr.index 114 (.agg #[.int .u64 x.a, .int .u64 x.b, .int .u64 x.c, .int .u64 x.d, .int .u64 x.e]) (.int .i64 4)).run Tryz.prog w = .ok (.int .u64 x.e) w := fun _ => by kernel_rfl
 have g0 := and51 (x := x.a + le0 x) ⟨by omega, by omega⟩
 have g1 := and51 (x := x.b + le1 x) ⟨by omega, by omega⟩
 have g2 := and51 (x := x.c + le2 x) ⟨by omega, by omega⟩
 have g3 := and51 (x := x.d + le3 x) ⟨by omega, by omega⟩
 have g4 := and51 (x := x.e + le4 x) ⟨by omega, by omega⟩
 go_enter Tryz.func95, Tryz.ntmps95
 go_wp2
 refine wp_loop_rounds 6 ?_
 rw [rounds_succ]
 go_wp2
 rw [show (x.a + 19) / 2251799813685248 = ov1 x from rfl]
 rw [rounds_succ]
 go_wp2
 rw [show (x.b + ov1 x) / 2251799813685248 = ov2 x from rfl]
 rw [rounds_succ]
 go_wp2
 rw [show (x.c + ov2 x) / 2251799813685248 = ov3 x from rfl]
 rw [rounds_succ]
 go_wp2
 rw [show (x.d + ov3 x) / 2251799813685248 = ov4 x from rfl]
 rw [rounds_succ]
 go_wp2
 rw [show (x.e + ov4 x) / 2251799813685248 = ov5 x from rfl]
 rw [rounds_succ]
 go_wp2
 rw [show ov5 x * 19 = le0 x from rfl]
 refine wp_loop_rounds 6 ?_
 rw [rounds_succ]
 go_wp2
 rw [show (x.a + le0 x) / 2251799813685248 = le1 x from rfl]
 rw [rounds_succ]
 go_wp2
 rw [show (x.b + le1 x) / 2251799813685248 = le2 x from rfl]
 rw [rounds_succ]
 go_wp2
 rw [show (x.c + le2 x) / 2251799813685248 = le3 x from rfl]
 rw [rounds_succ]
 go_wp2
 rw [show (x.d + le3 x) / 2251799813685248 = le4 x from rfl]
 rw [rounds_succ]
 go_wp2
 rw [show (x.e + le4 x) / 2251799813685248 = le5 x from rfl]
 rw [rounds_succ]
 go_wp2
 exact bodyPost_ret (v := (leastF x).v) (by simp [results, Tryz.results95, go_sem, leastF]) rfl ⟨rfl, (((Below.refl _ _).alloc (Nat.le_refl _) _).alloc (by simp) _).alloc (by simp; omega) _⟩
open Go.RowKit
theorem bt_bd (s : Yb) (i : Nat) : 0 ≤ bt s i ∧ bt s i < 256 := by
 unfold bt
 have := (s.data[i]?.getD 0).toNat_lt
 omega
theorem bt_at (s : Yb) (i : Nat) (h : i < s.size) : ((s[i]'h).toNat : Int) = bt s i := by
 unfold bt
 have h' : i < s.data.size := h
 rw [Array.getElem?_eq_getElem h']
 rfl
def sw (s : Yb) (j : Nat) : Nat → Int
 | 0 => 0
 | r + 1 => sw s j r + bt s (8 * j + r) * 256 ^ r
theorem sw_bd (s : Yb) (j r : Nat) : 0 ≤ sw s j r ∧ sw s j r < 256 ^ r := by
 induction r with
 | zero => simp [sw]
 | succ r ih =>
  have hb := bt_bd s (8 * j + r)
  have hp : (0 : Int) < 256 ^ r := Int.pow_pos (by decide)
  have h1 : bt s (8 * j + r) * 256 ^ r ≤ 255 * 256 ^ r := Int.mul_le_mul_of_nonneg_right (by omega) (by omega)
  have h2 : 0 ≤ bt s (8 * j + r) * 256 ^ r := Int.mul_nonneg hb.1 (by omega)
  have h3 : (256 : Int) ^ (r + 1) = 256 * 256 ^ r := by rw [Int.pow_succ, Int.mul_comm]
  simp only [sw]
  omega
def swk (s : Yb) (k j : Nat) : Int := sw s j (min (k - 8 * j) 8)
open Go.RowKit
def numberF (a b c d : Int) : E5 := car (a % 2251799813685248) ((a / 2251799813685248 + b * 8192) % 2251799813685248) ((b / 274877906944 + c * 67108864) % 2251799813685248) ((c / 33554432 + d * 549755813888) % 2251799813685248) (d / 4096)
theorem part1 {a b : Int} (ha : W64 a) (_hb : W64 b) : bits BinOp.and IntKind.u64 (bits BinOp.or IntKind.u64 (a / 2251799813685248) (IntKind.u64.wrap (b * 8192))) 2251799813685247 = (a / 2251799813685248 + b * 8192) % 2251799813685248 := by
 unfold W64 at *
 rw [IntKind.wrap_u64, or_join' 13 8192 (by decide) ⟨by omega, by omega⟩ ⟨by omega, by omega⟩ (by omega) (by omega), and51 ⟨by omega, by omega⟩]
 omega
theorem part2 {a b : Int} (ha : W64 a) (_hb : W64 b) : bits BinOp.and IntKind.u64 (bits BinOp.or IntKind.u64 (a / 274877906944) (IntKind.u64.wrap (b * 67108864))) 2251799813685247 = (a / 274877906944 + b * 67108864) % 2251799813685248 := by
 unfold W64 at *
 rw [IntKind.wrap_u64, or_join' 26 67108864 (by decide) ⟨by omega, by omega⟩ ⟨by omega, by omega⟩ (by omega) (by omega), and51 ⟨by omega, by omega⟩]
 omega
theorem part3 {a b : Int} (ha : W64 a) (_hb : W64 b) : bits BinOp.and IntKind.u64 (bits BinOp.or IntKind.u64 (a / 33554432) (IntKind.u64.wrap (b * 549755813888))) 2251799813685247 = (a / 33554432 + b * 549755813888) % 2251799813685248 := by
 unfold W64 at *
 rw [IntKind.wrap_u64, or_join' 39 549755813888 (by decide) ⟨by omega, by omega⟩ ⟨by omega, by omega⟩ (by omega) (by omega), and51 ⟨by omega, by omega⟩]
 omega
theorem numberF_ok {a b c d : Int} (_ha : W64 a) (_hb : W64 b) (_hc : W64 c) (hd : W64 d) : (numberF a b c d).Ok := by
 unfold W64 at *
 exact car_ok ⟨by omega, by omega⟩ ⟨by omega, by omega⟩ ⟨by omega, by omega⟩ ⟨by omega, by omega⟩ ⟨by omega, by omega⟩
theorem numberF_n {a b c d : Int} (ha : W64 a) (hb : W64 b) (hc : W64 c) (_hd : W64 d) : Cg (numberF a b c d).n (a + 18446744073709551616 * b + 340282366920938463463374607431768211456 * c + 6277101735386680763835789423207666416102355444464034512896 * d) := by
 refine (car_n _ _ _ _ _).trans (Cg.of_eq ?_)
 unfold W64 at *
 simp only [E5.n]
 omega
theorem number_any (a b c d : Int) (w : World) (ha : W64 a) (hb : W64 b) (hc : W64 c) (hd : W64 d) : Calls Tryz.prog 119 #[.agg #[.int .u64 a, .int .u64 b, .int .u64 c, .int .u64 d]] w fun r w' => r = .returned (numberF a b c d).v ∧ Below w.heap.size w w' := by
 have e0 := and51 ha
 have e1 := part1 ha hb
 have e2 := part2 hb hc
 have e3 := part3 hc hd
 have HE := hide (show numberF a b c d = car (a % 2251799813685248) ((a / 2251799813685248 + b * 8192) % 2251799813685248) ((b / 274877906944 + c * 67108864) % 2251799813685248) ((c / 33554432 + d * 549755813888) % 2251799813685248) (d / 4096) from rfl)
 have q0 : W64 (a % 2251799813685248) := ⟨by omega, by omega⟩
 have q1 : W64 ((a / 2251799813685248 + b * 8192) % 2251799813685248) := ⟨by omega, by omega⟩
 have q2 : W64 ((b / 274877906944 + c * 67108864) % 2251799813685248) := ⟨by omega, by omega⟩
 have q3 : W64 ((c / 33554432 + d * 549755813888) % 2251799813685248) := ⟨by omega, by omega⟩
 have q4 : W64 (d / 4096) := by unfold W64 at *; exact ⟨by omega, by omega⟩
 go_enter Tryz.func119, Tryz.ntmps119
 go_wp2_with fail
 have R := Out.start1 w (.cells #[.int .u64 a, .int .u64 b, .int .u64 c, .int .u64 d] 144)
 refine (carried_any _ _ _ _ _ _ q0 q1 q2 q3 q4).mono ?_
 rintro _ w1 ⟨rfl, hb⟩
 replace R := R.keep hb
 rw [← HE.out]
 clear HE
 generalize hz : numberF a b c d = z
 have HE := hide hz
 clear hz
 clear hb q0 q1 q2 q3 q4 e0 e1 e2 e3
 obtain ⟨old, ge, rs, rf, r0, r1, r2, r3, r4⟩ := R
 have O := hide old
 clear old
 go_wp2
 refine bodyPost_ret (v := z.v) (by simp [results, Tryz.results119, go_sem, r0, r1, r2, r3, r4]) rfl ⟨by rw [HE.out], ?_⟩
 exact five O.out ge
def val (s : Yb) : Int := sw s 0 8 + 18446744073709551616 * sw s 1 8 + 340282366920938463463374607431768211456 * sw s 2 8 + 6277101735386680763835789423207666416102355444464034512896 * sw s 3 8
def ofF (s : Yb) : E5 := numberF (sw s 0 8) (sw s 1 8) (sw s 2 8) (sw s 3 8)
theorem sw64 (s : Yb) (j : Nat) : W64 (sw s j 8) := by
 have h := sw_bd s j 8
 have e : (256 : Int) ^ 8 = 18446744073709551616 := by decide
 rw [e] at h
 exact h
theorem ofF_ok (s : Yb) : (ofF s).Ok := numberF_ok (sw64 s 0) (sw64 s 1) (sw64 s 2) (sw64 s 3)
theorem ofF_n (s : Yb) : Cg (ofF s).n (val s) := numberF_n (sw64 s 0) (sw64 s 1) (sw64 s 2) (sw64 s 3)
open Go.RowKit
def pt (s : Yb) (k : Nat) : Nat → Int := fun i => (if 2 * i < k then bt s (2 * i) else 0) + (if 2 * i + 1 < k then bt s (2 * i + 1) * 256 else 0)
theorem ptor0 (s : Yb) (i : Nat) : bits BinOp.or IntKind.u64 0 (bt s i) = bt s i := by
 have hb := bt_bd s i
 rw [or_join 8 256 (by decide) ⟨by decide, by decide⟩ ⟨hb.1, by omega⟩ (by decide) (by omega)]
 omega
theorem ptor1 (s : Yb) (i j : Nat) : bits BinOp.or IntKind.u64 (bt s i) (bt s j * 256) = bt s i + bt s j * 256 := by
 have hb := bt_bd s i
 have hc := bt_bd s j
 exact or_join' 8 256 (by decide) ⟨hb.1, by omega⟩ ⟨by omega, by omega⟩ (by omega) (by omega)
theorem pt_dig (s : Yb) (k : Nat) : Dig (pt s k) 16 := fun i _ => by
 have hb := bt_bd s (2 * i)
 have hc := bt_bd s (2 * i + 1)
 unfold pt
 split <;> split <;> omega
theorem pt_even (s : Yb) (j i : Nat) : upd (pt s (2 * j)) j (bt s (2 * j)) i = pt s (2 * j + 1) i := by
 unfold upd pt
 by_cases h : i = j
 ·subst h
  simp
 ·rw [if_neg h]
  congr 1
  ·by_cases h2 : 2 * i < 2 * j
   ·rw [if_pos h2, if_pos (by omega)]
   ·rw [if_neg h2, if_neg (by omega)]
  ·by_cases h2 : 2 * i + 1 < 2 * j
   ·rw [if_pos h2, if_pos (by omega)]
   ·rw [if_neg h2, if_neg (by omega)]
theorem pt_odd (s : Yb) (j i : Nat) : upd (pt s (2 * j + 1)) j (bt s (2 * j) + bt s (2 * j + 1) * 256) i = pt s (2 * j + 1 + 1) i := by
 unfold upd pt
 by_cases h : i = j
 ·subst h
  simp
  intro h
  omega
 ·rw [if_neg h]
  congr 1
  ·by_cases h2 : 2 * i < 2 * j + 1
   ·rw [if_pos h2, if_pos (by omega)]
   ·rw [if_neg h2, if_neg (by omega)]
  ·by_cases h2 : 2 * i + 1 < 2 * j + 1
   ·rw [if_pos h2, if_pos (by omega)]
   ·rw [if_neg h2, if_neg (by omega)]
theorem pt_S (s : Yb) : S (pt s 32) 16 = val s := by
 simp [S, pt, val, sw]
 omega
open Go.RowKit
theorem wid_S (f : NI) : S (wid f 16) 32 = S f 16 := by
 rw [S_upper_zero (wid f 16) fun i h _ => by unfold wid; rw [if_neg (by omega)]]
 exact S_congr fun i hi => by unfold wid; rw [if_pos hi]
theorem wid_48 {f : NI} (h : Dig f 16) : B48 (wid f 16) := ⟨fun i _ => by
 unfold wid
 by_cases hi : i < 16
 ·rw [if_pos hi]
  have := h i hi
  omega
 ·rw [if_neg hi]
  omega⟩
theorem and16u {x : Int} (h0 : 0 ≤ x) (h1 : x < 4294967296) : bits .and .u32 x 65535 = x % 65536 := by
 rw [u32_and x _ h0 h1 (by decide) (by decide)]
 have e : (65535 : Int).toNat = 65535 := by decide
 rw [e, nat_mask16]
 omega
theorem small_arr {n : Int} (h0 : 0 ≤ n) (h1 : n < 4294967296) : arr 16 (d16 n) = #[.int .u64 (n % 65536), .int .u64 (n / 65536), .int .u64 0, .int .u64 0, .int .u64 0, .int .u64 0, .int .u64 0, .int .u64 0, .int .u64 0, .int .u64 0, .int .u64 0, .int .u64 0, .int .u64 0, .int .u64 0, .int .u64 0, .int .u64 0] := by
 have e : arr 16 (d16 n) = arr 16 (fun i => if i = 0 then n % 65536 else if i = 1 then n / 65536 else 0) := by
  refine arr_congr fun i hi => ?_
  unfold d16
  by_cases i0 : i = 0
  ·subst i0; simp
  ·by_cases i1 : i = 1
   ·subst i1; simp; omega
   ·rw [if_neg i0, if_neg i1]
    have hp : (4294967296 : Int) ≤ 65536 ^ i := by
     obtain ⟨j, rfl⟩ : ∃ j, i = j + 2 := ⟨i - 2, by omega⟩
     rw [Int.pow_add]
     have := p16 j
     have e2 : (65536 : Int) ^ 2 = 4294967296 := by decide
     rw [e2]
     omega
    rw [Int.ediv_eq_zero_of_lt h0 (by omega)]
    decide
 rw [e]
 rfl
theorem rsmall_any (n : Int) (w : World) (h0 : 0 ≤ n) (h1 : n < 4294967296) : Cs 39 #[.int .u32 n] w (.agg (arr 16 (d16 n))) := by
 have e := and16u h0 h1
 have HA := hide (small_arr h0 h1)
 go_enter Tryz.func39, Tryz.ntmps39
 go_wp2
 refine bodyPost_ret (v := .agg (arr 16 (d16 n))) ?_ rfl ⟨rfl, (Below.refl _ _).alloc (Nat.le_refl _) _⟩
 rw [HA.out]
 simp [results, Tryz.results39, go_sem]
open Go.RowKit
theorem bs_fold (ns : List Int) : ∀ s : Yb, ns.foldl (fun r n => r.push (UInt8.ofNat n.toNat)) s = ⟨s.data ++ (ns.map fun n => UInt8.ofNat n.toNat).toArray⟩ := by
 induction ns with
 | nil => intro s; simp
 | cons n ns ih =>
  intro s
  rw [List.foldl_cons, ih]
  simp [ByteArray.push]
theorem conv_bytes (W : World) (g : Nat) (T : TypeId) (ns : List Int) (l cap : Nat) (fr : Nat × Nat) (hg : W.heap[g]? = some (.cells (ns.map (Value.int .u8)).toArray T fr)) (hl : ns.length = l) :
  (convert 61 9 (.slice (some ⟨g, 0, none⟩) l cap)).run Tryz.prog W = .ok (.string (bs ns)) W := by
 subst hl
 rw [run_convert_bytes_string W 61 9 5 (some ⟨g, 0, none⟩) ns.length cap Tryz.underlying61 Tryz.underlying5 Tryz.underlying9]
 have h := run_loadCells_list (P := Tryz.prog) W ⟨g, 0, none⟩ (ns.map (Value.int .u8)) (fun j v hv => by
  have hadd : (⟨g, 0, none⟩ : Addr).add j = ⟨g, j, none⟩ := by unfold Addr.add; split <;> simp_all
  rw [hadd, cell_of_row W g j _ T fr hg]
  simpa using hv)
 rw [List.length_map] at h
 have he : ByteArray.empty.data = #[] := rfl
 rw [run_bytesToString W _ ns.length cap ns h, bs_fold, he]
 simp [bs]
def digs (a : Int) : List Int := [a % 256, a / 256 % 256, a / 65536 % 256, a / 16777216 % 256, a / 4294967296 % 256, a / 1099511627776 % 256, a / 281474976710656 % 256, a / 72057594037927936 % 256]
def lebytes (n : Int) : ByteArray := bs (digs (n % 18446744073709551616) ++ digs (n / 18446744073709551616 % 18446744073709551616) ++ digs (n / 340282366920938463463374607431768211456 % 18446744073709551616) ++ digs (n / 6277101735386680763835789423207666416102355444464034512896 % 18446744073709551616))
theorem text_any (a b c d : Int) (w : World) : Cs 97 #[.agg #[.int .u64 a, .int .u64 b, .int .u64 c, .int .u64 d]] w (.string (bs (digs a ++ digs b ++ digs c ++ digs d))) := by
 go_enter Tryz.func97, Tryz.ntmps97
 go_wp2
 refine wp_loop_rounds 33 ?_
 iterate 33 (rw [rounds_succ]; go_wp2)
 have hcv : (convert 61 9 (.slice (some ⟨w.heap.size + 1, 0, none⟩) 32 32)).run Tryz.prog ((w.alloc (.cells #[.int .u64 a, .int .u64 b, .int .u64 c, .int .u64 d] 144)).alloc (.cells #[.int .u8 (a % 256), .int .u8 (a / 256 % 256), .int .u8 (a / 65536 % 256), .int .u8 (a / 16777216 % 256), .int .u8 (a / 4294967296 % 256), .int .u8 (a / 1099511627776 % 256), .int .u8 (a / 281474976710656 % 256), .int .u8 (a / 72057594037927936 % 256), .int .u8 (b % 256), .int .u8 (b / 256 % 256), .int .u8 (b / 65536 % 256), .int .u8 (b / 16777216 % 256), .int .u8 (b / 4294967296 % 256), .int .u8 (b / 1099511627776 % 256), .int .u8 (b / 281474976710656 % 256), .int .u8 (b / 72057594037927936 % 256), .int .u8 (c % 256), .int .u8 (c / 256 % 256), .int .u8 (c / 65536 % 256), .int .u8 (c / 16777216 % 256), .int .u8 (c / 4294967296 % 256), .int .u8 (c / 1099511627776 % 256), .int .u8 (c / 281474976710656 % 256), .int .u8 (c / 72057594037927936 % 256), .int .u8 (d % 256), .int .u8 (d / 256 % 256), .int .u8 (d / 65536 % 256), .int .u8 (d / 16777216 % 256), .int .u8 (d / 4294967296 % 256), .int .u8 (d / 1099511627776 % 256), .int .u8 (d / 281474976710656 % 256), .int .u8 (d / 72057594037927936 % 256)] 174)) = .ok (.string (bs (digs a ++ digs b ++ digs c ++ digs d))) _ := conv_bytes _ (w.heap.size + 1) 174 (digs a ++ digs b ++ digs c ++ digs d) 32 32 (0, 0) (heap_alloc2_new w _ _) rfl
 rw [hcv]
 clear hcv
 generalize hB : bs (digs a ++ digs b ++ digs c ++ digs d) = B
 have HB := hide hB
 clear hB
 go_wp2
 go_ret
 exact ⟨by rw [HB.out]; rfl, ((Below.refl _ _).alloc (Nat.le_refl _) _).alloc (by simp) _⟩
theorem wordsR0 {y : E5} (h : y.Low) : bits BinOp.or IntKind.u64 y.a (IntKind.u64.wrap (y.b * 2251799813685248)) = y.n % 18446744073709551616 := by
 obtain ⟨a0, a1, b0, b1, c0, c1, d0, d1, e0, e1⟩ := h
 rw [IntKind.wrap_u64, or_join' 51 2251799813685248 (by decide) ⟨by omega, by omega⟩ ⟨by omega, by omega⟩ (by omega) (by omega)]
 simp only [E5.n]
 omega
theorem wordsR1 {y : E5} (h : y.Low) : bits BinOp.or IntKind.u64 (y.b / 8192) (IntKind.u64.wrap (y.c * 274877906944)) = y.n / 18446744073709551616 % 18446744073709551616 := by
 obtain ⟨a0, a1, b0, b1, c0, c1, d0, d1, e0, e1⟩ := h
 rw [IntKind.wrap_u64, or_join' 38 274877906944 (by decide) ⟨by omega, by omega⟩ ⟨by omega, by omega⟩ (by omega) (by omega)]
 simp only [E5.n]
 omega
theorem wordsR2 {y : E5} (h : y.Low) : bits BinOp.or IntKind.u64 (y.c / 67108864) (IntKind.u64.wrap (y.d * 33554432)) = y.n / 340282366920938463463374607431768211456 % 18446744073709551616 := by
 obtain ⟨a0, a1, b0, b1, c0, c1, d0, d1, e0, e1⟩ := h
 rw [IntKind.wrap_u64, or_join' 25 33554432 (by decide) ⟨by omega, by omega⟩ ⟨by omega, by omega⟩ (by omega) (by omega)]
 simp only [E5.n]
 omega
theorem wordsR3 {y : E5} (h : y.Low) : bits BinOp.or IntKind.u64 (y.d / 549755813888) (IntKind.u64.wrap (y.e * 4096)) = y.n / 6277101735386680763835789423207666416102355444464034512896 % 18446744073709551616 := by
 obtain ⟨a0, a1, b0, b1, c0, c1, d0, d1, e0, e1⟩ := h
 rw [IntKind.wrap_u64, or_join' 12 4096 (by decide) ⟨by omega, by omega⟩ ⟨by omega, by omega⟩ (by omega) (by omega)]
 simp only [E5.n]
 omega
theorem set4 {B g : Nat} {w w1 : World} (h : Below B w w1) (hg : B ≤ g) {u0 u1 u2 u3 : Value} :
  Below B w ((((w1.setCell ⟨g, 0, none⟩ u0).setCell ⟨g, 1, none⟩ u1).setCell ⟨g, 2, none⟩ u2).setCell ⟨g, 3, none⟩ u3) :=
 (((h.setCell (p := ⟨g, 0, none⟩) hg u0).setCell (p := ⟨g, 1, none⟩) hg u1).setCell (p := ⟨g, 2, none⟩) hg u2).setCell (p := ⟨g, 3, none⟩) hg u3
abbrev w4 (n : Int) : Value := .agg #[.int .u64 (n % 18446744073709551616), .int .u64 (n / 18446744073709551616 % 18446744073709551616), .int .u64 (n / 340282366920938463463374607431768211456 % 18446744073709551616), .int .u64 (n / 6277101735386680763835789423207666416102355444464034512896 % 18446744073709551616)]
theorem words_any (x : E5) (w : World) (hx : x.Ok) : Cs 96 #[x.v] w (w4 (x.n % Pm)) := by
 go_enter Tryz.func96, Tryz.ntmps96
 go_wp2_with fail
 refine (least_any x _ hx).mono ?_
 rintro _ w1 ⟨rfl, hb⟩
 have HN := hide (leastF_n hx)
 have hl := leastF_low x
 have e0 := wordsR0 hl
 have e1 := wordsR1 hl
 have e2 := wordsR2 hl
 have e3 := wordsR3 hl
 rw [leastF_n hx] at e0 e1 e2 e3
 generalize leastF x = y at *
 have H3 := hide (below2 hb)
 obtain ⟨hc, hf⟩ := bcell hb
 have hs : w.heap.size + 1 < w1.heap.size := by have := hb.size; simp at this; omega
 clear hb hl
 go_wp2
 refine bodyPost_ret (v := w4 (x.n % Pm)) (by simp [results, Tryz.results96, go_sem, hc, hs]) rfl ⟨rfl, ?_⟩
 exact (set4 (B := w.heap.size) (g := w.heap.size + 1) H3.out (by omega)).alloc (by simp; omega) _
theorem bytes_any (x : E5) (w : World) (hx : x.Ok) : Cs 70 #[x.v] w (.string (lebytes (x.n % Pm))) := by
 go_enter Tryz.func70, Tryz.ntmps70
 go_wp2_with fail
 refine (words_any x _ hx).mono ?_
 rintro _ w1 ⟨rfl, hb⟩
 have H3 := below1 hb
 clear hb
 go_wp2_with fail
 refine (text_any _ _ _ _ _).mono ?_
 rintro _ w2 ⟨rfl, hb⟩
 have H4 := H3.trans (hb.mono H3.size)
 clear hb H3
 rw [show bs (digs (x.n % Pm % 18446744073709551616) ++ digs (x.n % Pm / 18446744073709551616 % 18446744073709551616) ++ digs (x.n % Pm / 340282366920938463463374607431768211456 % 18446744073709551616) ++ digs (x.n % Pm / 6277101735386680763835789423207666416102355444464034512896 % 18446744073709551616)) = lebytes (x.n % Pm) from rfl]
 go_wp2
 go_ret
 exact ⟨rfl, H4⟩
open Go.RowKit
def by16 (f : NI) (i : Nat) : Int := f (i / 2) / 256 ^ (i % 2) % 256
def rb (f : NI) (k : Nat) : List Int := (List.range 32).map fun i => if i < k then by16 f i else 0
theorem rb_len (f : NI) (k : Nat) : (rb f k).length = 32 := by simp [rb]
end Go.Proofs.YtffimigpbcilbaaGreatDoor.Mon
