/- Contracts of the functions of package num that carry, add, subtract and negate. -/
import Derived.Test.YtiiniodidkfbiaaRows
import Derived.WalkKit
import Derived.WalkSpells
import Derived.WalkLawsBesides
import Derived.Test.YtiiniodidkfbiaaArith
namespace Go.Proofs.Ytiiniodidkfbiaa
open Go.RowKit

theorem carR {a b : Int} (ha : W64 a) (hb : W64 b) : IntKind.u64.wrap (bits BinOp.and IntKind.u64 b 2251799813685247 + a / 2251799813685248) = b % 2251799813685248 + a / 2251799813685248 := by
  rw [and51 hb]
  unfold W64 at *
  exact wrap64u ⟨by omega, by omega⟩

theorem carR0 {a b : Int} (ha : W64 a) (hb : W64 b) : IntKind.u64.wrap (bits BinOp.and IntKind.u64 b 2251799813685247 + IntKind.u64.wrap (a / 2251799813685248 * 19)) = b % 2251799813685248 + a / 2251799813685248 * 19 := by
  rw [and51 hb]
  unfold W64 at *
  rw [wrap64u (x := a / 2251799813685248 * 19) ⟨by omega, by omega⟩]
  exact wrap64u ⟨by omega, by omega⟩

set_option maxHeartbeats 400000 in
theorem carried_any (a b c d e : Int) (w : World) (ha : W64 a) (hb : W64 b) (hc : W64 c) (hd : W64 d) (he : W64 e) :
    Calls Try.prog 38 #[.int .u64 a, .int .u64 b, .int .u64 c, .int .u64 d, .int .u64 e] w fun r w' => r = .returned (car a b c d e).v ∧ Below w.heap.size w w' := by
  go_enter Try.func38, Try.ntmps38
  go_wp2
  rw [carR0 he ha, carR ha hb, carR hb hc, carR hc hd, carR hd he]
  exact bodyPost_ret (v := (car a b c d e).v) (by simp [results, Try.results38, go_sem, car]) rfl ⟨rfl, (Below.refl _ _).alloc (Nat.le_refl _) _⟩

theorem bcell {W w1 : World} (hb : Below W.heap.size W w1) : (∀ b o, b < W.heap.size → w1.cell? ⟨b, o, none⟩ = W.cell? ⟨b, o, none⟩) ∧ (∀ b o, b < W.heap.size → w1.frozen? ⟨b, o, none⟩ = W.frozen? ⟨b, o, none⟩) :=
  ⟨fun b o h => hb.cell (p := ⟨b, o, none⟩) h, fun b o h => hb.frozen (p := ⟨b, o, none⟩) h⟩

theorem below3 {w w1 : World} {A B C : Obj} (hb : Below (((w.alloc A).alloc B).alloc C).heap.size (((w.alloc A).alloc B).alloc C) w1) : Below w.heap.size w w1 :=
  ((((Below.refl _ _).alloc (Nat.le_refl _) _).alloc (by simp) _).alloc (by simp; omega) _).trans (hb.mono (by simp; omega))

theorem below2 {w w1 : World} {A B : Obj} (hb : Below ((w.alloc A).alloc B).heap.size ((w.alloc A).alloc B) w1) : Below w.heap.size w w1 :=
  (((Below.refl _ _).alloc (Nat.le_refl _) _).alloc (by simp) _).trans (hb.mono (by simp; omega))

theorem below1 {w w1 : World} {A : Obj} (hb : Below (w.alloc A).heap.size (w.alloc A) w1) : Below w.heap.size w w1 :=
  ((Below.refl _ _).alloc (Nat.le_refl _) _).trans (hb.mono (by simp))

theorem set5 {B g : Nat} {w w1 : World} (h : Below B w w1) (hg : B ≤ g) {u0 u1 u2 u3 u4 : Value} :
    Below B w (((((w1.setCell ⟨g, 0, none⟩ u0).setCell ⟨g, 1, none⟩ u1).setCell ⟨g, 2, none⟩ u2).setCell ⟨g, 3, none⟩ u3).setCell ⟨g, 4, none⟩ u4) :=
  ((((h.setCell (p := ⟨g, 0, none⟩) hg u0).setCell (p := ⟨g, 1, none⟩) hg u1).setCell (p := ⟨g, 2, none⟩) hg u2).setCell (p := ⟨g, 3, none⟩) hg u3).setCell (p := ⟨g, 4, none⟩) hg u4

theorem set2 {B g : Nat} {w w1 : World} (h : Below B w w1) (hg : B ≤ g) {u0 u1 : Value} :
    Below B w ((w1.setCell ⟨g, 0, none⟩ u0).setCell ⟨g, 1, none⟩ u1) :=
  (h.setCell (p := ⟨g, 0, none⟩) hg u0).setCell (p := ⟨g, 1, none⟩) hg u1

set_option maxHeartbeats 400000 in
theorem add_any (x y : E5) (w : World) (hx : x.Ok) (hy : y.Ok) :
    Calls Try.prog 44 #[x.v, y.v] w fun r w' => r = .returned (addF x y).v ∧ Below w.heap.size w w' := by
  obtain ⟨a0, a1, b0, b1, c0, c1, d0, d1, e0, e1⟩ := hx
  obtain ⟨f0, f1, g0, g1, h0, h1, i0, i1, j0, j1⟩ := hy
  go_enter Try.func44, Try.ntmps44
  go_wp2_with fail
  refine (carried_any _ _ _ _ _ _ ⟨by omega, by omega⟩ ⟨by omega, by omega⟩ ⟨by omega, by omega⟩ ⟨by omega, by omega⟩ ⟨by omega, by omega⟩).mono ?_
  rintro _ w1 ⟨rfl, hb⟩
  obtain ⟨z, hz⟩ : ∃ z, addF x y = z := ⟨_, rfl⟩
  have hz' := hz
  unfold addF at hz'
  rw [hz']
  have H := hide hz
  have H3 := hide (below3 hb)
  obtain ⟨hc, hf⟩ := bcell hb
  have hs : w.heap.size + 1 + 1 < w1.heap.size := by have := hb.size; simp at this; omega
  clear hz hz' hb a0 a1 b0 b1 c0 c1 d0 d1 e0 e1 f0 f1 g0 g1 h0 h1 i0 i1 j0 j1
  go_wp2
  refine bodyPost_ret (v := z.v) (by simp [results, Try.results44, go_sem, hc]) rfl ⟨by rw [H.out], ?_⟩
  exact set5 H3.out (by omega)

set_option maxHeartbeats 400000 in
theorem sub_any (x y : E5) (w : World) (hx : x.Ok) (hy : y.Ok) :
    Calls Try.prog 45 #[x.v, y.v] w fun r w' => r = .returned (subF x y).v ∧ Below w.heap.size w w' := by
  obtain ⟨a0, a1, b0, b1, c0, c1, d0, d1, e0, e1⟩ := hx
  obtain ⟨f0, f1, g0, g1, h0, h1, i0, i1, j0, j1⟩ := hy
  go_enter Try.func45, Try.ntmps45
  go_wp2_with fail
  refine (carried_any _ _ _ _ _ _ ⟨by omega, by omega⟩ ⟨by omega, by omega⟩ ⟨by omega, by omega⟩ ⟨by omega, by omega⟩ ⟨by omega, by omega⟩).mono ?_
  rintro _ w1 ⟨rfl, hb⟩
  obtain ⟨z, hz⟩ : ∃ z, subF x y = z := ⟨_, rfl⟩
  have hz' := hz
  unfold subF at hz'
  rw [hz']
  have H := hide hz
  have H3 := hide (below3 hb)
  obtain ⟨hc, hf⟩ := bcell hb
  have hs : w.heap.size + 1 + 1 < w1.heap.size := by have := hb.size; simp at this; omega
  clear hz hz' hb a0 a1 b0 b1 c0 c1 d0 d1 e0 e1 f0 f1 g0 g1 h0 h1 i0 i1 j0 j1
  go_wp2
  refine bodyPost_ret (v := z.v) (by simp [results, Try.results45, go_sem, hc]) rfl ⟨by rw [H.out], ?_⟩
  exact set5 H3.out (by omega)

set_option maxHeartbeats 400000 in
theorem small_any (n : Int) (w : World) (h0 : 0 ≤ n) (h1 : n < 4294967296) :
    Calls Try.prog 20 #[.int .u32 n] w fun r w' => r = .returned (smallF n).v ∧ Below w.heap.size w w' := by
  go_enter Try.func20, Try.ntmps20
  go_wp2_with fail
  refine (carried_any _ _ _ _ _ _ ⟨by omega, by omega⟩ ⟨by decide, by decide⟩ ⟨by decide, by decide⟩ ⟨by decide, by decide⟩ ⟨by decide, by decide⟩).mono ?_
  rintro _ w1 ⟨rfl, hb⟩
  obtain ⟨z, hz⟩ : ∃ z, smallF n = z := ⟨_, rfl⟩
  have hz' := hz
  unfold smallF at hz'
  rw [hz']
  have H := hide hz
  have H3 := hide (below1 hb)
  obtain ⟨hc, hf⟩ := bcell hb
  have hs : w.heap.size < w1.heap.size := by have := hb.size; simp at this; omega
  clear hz hz' hb
  go_wp2
  refine bodyPost_ret (v := z.v) (by simp [results, Try.results20, go_sem, hc]) rfl ⟨by rw [H.out], ?_⟩
  exact set5 H3.out (by omega)

end Go.Proofs.Ytiiniodidkfbiaa
