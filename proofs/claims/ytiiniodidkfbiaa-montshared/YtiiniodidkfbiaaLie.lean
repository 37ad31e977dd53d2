/- Numbers of five parts that lie in memory, and that they stay there. -/
import Derived.Test.YtiiniodidkfbiaaKeep
import Derived.Test.YtiiniodidkfbiaaArith
namespace Go.Proofs.Ytiiniodidkfbiaa
open Go.RowKit

/-- Block g holds the number x. -/
structure EAt (W : World) (g : Nat) (x : E5) : Prop where
  size : g < W.heap.size
  free : ∀ o, W.frozen? ⟨g, o, none⟩ = false
  c0 : W.cell? ⟨g, 0, none⟩ = some (.int .u64 x.a)
  c1 : W.cell? ⟨g, 1, none⟩ = some (.int .u64 x.b)
  c2 : W.cell? ⟨g, 2, none⟩ = some (.int .u64 x.c)
  c3 : W.cell? ⟨g, 3, none⟩ = some (.int .u64 x.d)
  c4 : W.cell? ⟨g, 4, none⟩ = some (.int .u64 x.e)

theorem EAt.keep {W W' : World} {g : Nat} {x : E5} (h : EAt W g x) (hb : Below W.heap.size W W') : EAt W' g x :=
  ⟨Nat.lt_of_lt_of_le h.size hb.size, fun o => (hb.frozen (p := ⟨g, o, none⟩) h.size).trans (h.free o), (hb.cell (p := ⟨g, 0, none⟩) h.size).trans h.c0, (hb.cell (p := ⟨g, 1, none⟩) h.size).trans h.c1, (hb.cell (p := ⟨g, 2, none⟩) h.size).trans h.c2, (hb.cell (p := ⟨g, 3, none⟩) h.size).trans h.c3, (hb.cell (p := ⟨g, 4, none⟩) h.size).trans h.c4⟩

theorem EAt.new (W : World) (x : E5) (T : TypeId) : EAt (W.alloc (.cells #[.int .u64 x.a, .int .u64 x.b, .int .u64 x.c, .int .u64 x.d, .int .u64 x.e] T)) W.heap.size x := by
  refine ⟨by simp, ?_, ?_, ?_, ?_, ?_, ?_⟩ <;> simp [go_sem]

theorem new_below (W : World) (o : Obj) : Below W.heap.size W (W.alloc o) := (Below.refl _ _).alloc (Nat.le_refl _) _

theorem EAt.alloc {W : World} {g : Nat} {x : E5} (h : EAt W g x) (o : Obj) : EAt (W.alloc o) g x := h.keep (new_below W o)

theorem EAt.drewN {W : World} {g : Nat} {x : E5} (h : EAt W g x) (n : Nat) : EAt (W.drewN n) g x := ⟨h.size, h.free, h.c0, h.c1, h.c2, h.c3, h.c4⟩

/-- The five cells in every world that keeps W. -/
theorem EAt.k0 {W : World} {g : Nat} {x : E5} (h : EAt W g x) (s : KW W) : s.w.cell? ⟨g, 0, none⟩ = some (.int .u64 x.a) := (h.keep s.keep).c0
theorem EAt.k1 {W : World} {g : Nat} {x : E5} (h : EAt W g x) (s : KW W) : s.w.cell? ⟨g, 1, none⟩ = some (.int .u64 x.b) := (h.keep s.keep).c1
theorem EAt.k2 {W : World} {g : Nat} {x : E5} (h : EAt W g x) (s : KW W) : s.w.cell? ⟨g, 2, none⟩ = some (.int .u64 x.c) := (h.keep s.keep).c2
theorem EAt.k3 {W : World} {g : Nat} {x : E5} (h : EAt W g x) (s : KW W) : s.w.cell? ⟨g, 3, none⟩ = some (.int .u64 x.d) := (h.keep s.keep).c3
theorem EAt.k4 {W : World} {g : Nat} {x : E5} (h : EAt W g x) (s : KW W) : s.w.cell? ⟨g, 4, none⟩ = some (.int .u64 x.e) := (h.keep s.keep).c4

theorem KW.some (W : World) : Nonempty (KW W) := ⟨⟨W, Below.refl _ _⟩⟩

theorem EAt.drew {W : World} {g : Nat} {x : E5} (h : EAt W g x) : EAt W.drew g x := ⟨h.size, h.free, h.c0, h.c1, h.c2, h.c3, h.c4⟩

/-- The block g of the result, not yet written; nothing that was there in w has changed. -/
structure Out (w W : World) (g : Nat) : Prop where
  old : Below w.heap.size w W
  ge : w.heap.size ≤ g
  lie : EAt W g zeroE

theorem Out.keep {w W W' : World} {g : Nat} (h : Out w W g) (hb : Below W.heap.size W W') : Out w W' g := ⟨h.old.trans (hb.mono h.old.size), h.ge, h.lie.keep hb⟩

theorem Out.drew {w W : World} {g : Nat} (h : Out w W g) : Out w W.drew g := ⟨h.old.drew, h.ge, h.lie.drew⟩
theorem Out.alloc {w W : World} {g : Nat} (h : Out w W g) (o : Obj) : Out w (W.alloc o) g := h.keep (new_below W o)

theorem Out.start0 (w : World) : Out w (w.alloc (.cells #[.int .u64 0, .int .u64 0, .int .u64 0, .int .u64 0, .int .u64 0] 41)) w.heap.size := ⟨new_below w _, Nat.le_refl _, EAt.new w zeroE 41⟩

theorem Out.start1 (w : World) (o : Obj) : Out w ((w.alloc o).alloc (.cells #[.int .u64 0, .int .u64 0, .int .u64 0, .int .u64 0, .int .u64 0] 41)) (w.heap.size + 1) := by
  refine ⟨(new_below w o).trans ((new_below (w.alloc o) _).mono (by simp)), by omega, ?_⟩
  have h := EAt.new (w.alloc o) zeroE 41
  rwa [World.size_alloc] at h

theorem EAt.new1 (w : World) (x : E5) (o : Obj) : EAt ((w.alloc (.cells #[.int .u64 x.a, .int .u64 x.b, .int .u64 x.c, .int .u64 x.d, .int .u64 x.e] 41)).alloc o) w.heap.size x := (EAt.new w x 41).alloc o

theorem five {B g : Nat} {w w1 : World} (h : Below B w w1) (hg : B ≤ g) {u0 u1 u2 u3 u4 : Value} :
    Below B w (((((w1.setCell ⟨g, 0, none⟩ u0).setCell ⟨g, 1, none⟩ u1).setCell ⟨g, 2, none⟩ u2).setCell ⟨g, 3, none⟩ u3).setCell ⟨g, 4, none⟩ u4) :=
  ((((h.setCell (p := ⟨g, 0, none⟩) hg u0).setCell (p := ⟨g, 1, none⟩) hg u1).setCell (p := ⟨g, 2, none⟩) hg u2).setCell (p := ⟨g, 3, none⟩) hg u3).setCell (p := ⟨g, 4, none⟩) hg u4

theorem EAt.of_zero {W : World} {g : Nat} (h : W.heap[g]? = some (.cells #[.int .u64 0, .int .u64 0, .int .u64 0, .int .u64 0, .int .u64 0] 41)) : EAt W g zeroE := by
  have hlt : g < W.heap.size := by
    by_cases hlt : g < W.heap.size
    · exact hlt
    · have hn : W.heap[g]? = none := by simp; omega
      rw [hn] at h
      cases h
  refine ⟨hlt, fun o => by simp [World.frozen?, h], ?_, ?_, ?_, ?_, ?_⟩ <;> simp [World.cell?, h, zeroE]

/-- The number z is stored into block g. -/
abbrev put5 (W : World) (g : Nat) (z : E5) : World := ((((W.setCell ⟨g, 0, none⟩ (.int .u64 z.a)).setCell ⟨g, 1, none⟩ (.int .u64 z.b)).setCell ⟨g, 2, none⟩ (.int .u64 z.c)).setCell ⟨g, 3, none⟩ (.int .u64 z.d)).setCell ⟨g, 4, none⟩ (.int .u64 z.e)

theorem EAt.put {W : World} {g : Nat} {x : E5} (h : EAt W g x) (z : E5) : EAt (put5 W g z) g z := by
  obtain ⟨hs, hf, c0, c1, c2, c3, c4⟩ := h
  refine ⟨?_, ?_, ?_, ?_, ?_, ?_, ?_⟩ <;> simp [go_sem, hs, hf, c0, c1, c2, c3, c4]

theorem EAt.other {W : World} {g k : Nat} {x : E5} (h : EAt W g x) (hk : g ≠ k) (z : E5) : EAt (put5 W k z) g x := by
  obtain ⟨hs, hf, c0, c1, c2, c3, c4⟩ := h
  refine ⟨?_, ?_, ?_, ?_, ?_, ?_, ?_⟩ <;> simp [go_sem, hs, hf, c0, c1, c2, c3, c4]

theorem Out.other {w W : World} {g k : Nat} (h : Out w W g) (hk : g ≠ k) (hle : w.heap.size ≤ k) (z : E5) : Out w (put5 W k z) g := ⟨five h.old hle, h.ge, h.lie.other hk z⟩

end Go.Proofs.Ytiiniodidkfbiaa
