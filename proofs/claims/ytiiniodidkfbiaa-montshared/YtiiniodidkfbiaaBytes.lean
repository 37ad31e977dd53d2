/- Bytes of a string in memory of their own; the contracts of both Clamp. -/
import Derived.Test.YtiiniodidkfbiaaTimes
import Derived.Test.YtiiniodidkfbiaaText
import Derived.Laws.IdiomStrings
namespace Go.Proofs.Ytiiniodidkfbiaa
open Go.RowKit

theorem bs_size (l : List Int) : (bs l).size = l.length := by simp [bs, ByteArray.size]
theorem bt_bs (l : List Int) (i : Nat) (x : Int) (hl : l[i]? = some x) (h0 : 0 ≤ x) (h1 : x < 256) : bt (bs l) i = x := by
  unfold bt bs
  simp only [List.getElem?_toArray, List.getElem?_map, hl, Option.map_some, Option.getD_some]
  simp only [UInt8.toNat_ofNat']
  omega

theorem bt_out (s : ByteArray) (i : Nat) (h : s.size ≤ i) : bt s i = 0 := by
  unfold bt
  have h' : s.data.size ≤ i := h
  rw [Array.getElem?_eq_none h']
  rfl

/-- Block g holds the bytes f 0 .. f (n - 1), and may be written. -/
structure BC (W : World) (g : Nat) (f : Nat → Int) (n : Nat) : Prop where
  lt : g < W.heap.size
  c : ∀ i, i < n → W.cell? ⟨g, i, none⟩ = some (.int .u8 (f i))
  fz : ∀ i, i < n → W.frozen? ⟨g, i, none⟩ = false

theorem BC.keep {W W' : World} {g n : Nat} {f : Nat → Int} (h : BC W g f n) (hb : Below W.heap.size W W') : BC W' g f n where
  lt := Nat.lt_of_lt_of_le h.lt hb.size
  c := fun i hi => by
    rw [← h.c i hi]
    unfold World.cell?
    rw [hb.block g h.lt]
  fz := fun i hi => by
    rw [← h.fz i hi]
    unfold World.frozen?
    rw [hb.block g h.lt]

theorem BC.alloc {W : World} {g n : Nat} {f : Nat → Int} (h : BC W g f n) (o : Obj) : BC (W.alloc o) g f n := h.keep (new_below W o)

theorem heap_setCell_size (W : World) (a : Addr) (v : Value) : (W.setCell a v).heap.size = W.heap.size := by
  simp

theorem BC.set {W : World} {g n : Nat} {f : Nat → Int} (h : BC W g f n) {k : Nat} (hk : k < n) (v : Int) : BC (W.setCell ⟨g, k, none⟩ (.int .u8 v)) g (upd f k v) n where
  lt := by rw [heap_setCell_size]; exact h.lt
  c := fun i hi => by
    by_cases e : i = k
    · subst e
      rw [World.cell?_setCell_same _ _ _ (h.c i hk)]
      simp [upd]
    · rw [World.cell?_setCell_other _ _ _ _ (by simp <;> omega), h.c i hi]
      simp [upd, e]
  fz := fun i hi => by
    rw [World.frozen?_setCell]
    exact h.fz i hi

theorem BC.other {W : World} {g n : Nat} {f : Nat → Int} (h : BC W g f n) {a : Addr} (ha : g ≠ a.block) (v : Value) : BC (W.setCell a v) g f n where
  lt := by rw [heap_setCell_size]; exact h.lt
  c := fun i hi => by
    rw [World.cell?_setCell_other _ _ _ _ (by intro e; rw [e] at ha; exact ha rfl), h.c i hi]
  fz := fun i hi => by
    rw [World.frozen?_setCell]
    exact h.fz i hi

theorem BC.drew {W : World} {g n : Nat} {f : Nat → Int} (h : BC W g f n) : BC W.drew g f n := ⟨h.lt, h.c, h.fz⟩
theorem BC.congr {W : World} {g n : Nat} {f f' : Nat → Int} (h : BC W g f n) (e : ∀ i, i < n → f i = f' i) : BC W g f' n := ⟨h.lt, fun i hi => by rw [h.c i hi, e i hi], h.fz⟩

theorem row_frozen (w : World) (g j : Nat) (cs : Array Value) (t : TypeId) (hg : w.heap[g]? = some (.cells cs t (cs.size, cs.size + 1))) (hj : j < cs.size) : w.frozen? ⟨g, j, none⟩ = false := by
  unfold World.frozen?
  rw [hg]
  simp
  omega

/-- A string's bytes in memory of their own. -/
theorem conv_str (W : World) (s : ByteArray) : ∃ (cap : Nat) (W1 : World), (convert 9 32 (.string s)).run Try.prog W = .ok (.slice (some ⟨W.heap.size, 0, none⟩) s.size cap) W1 ∧ BC W1 W.heap.size (bt s) s.size ∧ Below W.heap.size W W1 := by
  have h := run_bytes_of_string (P := Try.prog) W 9 32 5 s Try.underlying9 Try.underlying32 Try.underlying5
  generalize grownCap W s.size 0 5 = cap at h
  refine ⟨cap, _, h, ?_, ((Below.refl _ _).drew).alloc (Nat.le_refl _) _⟩
  have hg : (W.drew.alloc (.cells (bytesRow s cap) 5 ((bytesRow s cap).size, (bytesRow s cap).size + 1))).heap[W.heap.size]? = some (.cells (bytesRow s cap) 5 ((bytesRow s cap).size, (bytesRow s cap).size + 1)) := heap_alloc_new W.drew _
  have hsz : s.size ≤ (bytesRow s cap).size := by
    simp [bytesRow]
  refine ⟨by simp, fun i hi => ?_, fun i hi => row_frozen _ _ _ _ _ hg (by omega)⟩
  rw [cell_of_row _ _ _ _ _ _ hg]
  have hi' : i < s.data.size := hi
  unfold bytesRow bt
  rw [Array.getElem?_append_left (by simpa using hi'), Array.getElem?_map, Array.getElem?_eq_getElem hi']
  rfl

/-- Bytes in memory as a string. -/
theorem conv_back {W : World} {g n : Nat} {f : Nat → Int} (h : BC W g f n) (cap : Nat) (hf : ∀ i, i < n → 0 ≤ f i ∧ f i < 256) :
    (convert 32 9 (.slice (some ⟨g, 0, none⟩) n cap)).run Try.prog W = .ok (.string (bs ((List.range n).map f))) W := by
  have hl : ((List.range n).map fun i => UInt8.ofNat (f i).toNat).length = n := by simp
  have h2 := run_convert_bytes_back (P := Try.prog) W 32 9 5 ⟨g, 0, none⟩ cap ((List.range n).map fun i => UInt8.ofNat (f i).toNat) Try.underlying32 Try.underlying5 Try.underlying9 (fun j hj => by
    rw [hl] at hj
    have hadd : (⟨g, 0, none⟩ : Addr).add j = ⟨g, j, none⟩ := by unfold Addr.add; split <;> simp_all
    rw [hadd, h.c j hj]
    have := hf j hj
    simp
    omega)
  rw [hl] at h2
  rw [h2]
  unfold bs
  congr 3
  simp [List.map_map]

theorem and_bd {x : Int} (h0 : 0 ≤ x) (h1 : x < 256) : 0 ≤ bits .and .u8 x 248 ∧ bits .and .u8 x 248 < 256 := by
  obtain ⟨X, rfl⟩ := Int.eq_ofNat_of_zero_le h0
  have hX : X < 256 := by omega
  have h : ∀ n : Fin 256, 0 ≤ bits .and .u8 ((n.val : Nat) : Int) 248 ∧ bits .and .u8 ((n.val : Nat) : Int) 248 < 256 := by decide +kernel
  exact h ⟨X, hX⟩
theorem or_bd {x : Int} (h0 : 0 ≤ x) (h1 : x < 256) : 0 ≤ bits .or .u8 (bits .and .u8 x 127) 64 ∧ bits .or .u8 (bits .and .u8 x 127) 64 < 256 := by
  obtain ⟨X, rfl⟩ := Int.eq_ofNat_of_zero_le h0
  have hX : X < 256 := by omega
  have h : ∀ n : Fin 256, 0 ≤ bits .or .u8 (bits .and .u8 ((n.val : Nat) : Int) 127) 64 ∧ bits .or .u8 (bits .and .u8 ((n.val : Nat) : Int) 127) 64 < 256 := by decide +kernel
  exact h ⟨X, hX⟩

/-- The bytes of a secret that is clamped. -/
def clF (s : ByteArray) : Nat → Int := upd (upd (bt s) 0 (bits .and .u8 (bt s 0) 248)) 31 (bits .or .u8 (bits .and .u8 (bt s 31) 127) 64)
def clS (s : ByteArray) : ByteArray := bs ((List.range 32).map (clF s))
theorem clF_bd (s : ByteArray) (i : Nat) : 0 ≤ clF s i ∧ clF s i < 256 := by
  unfold clF upd
  by_cases h1 : i = 31
  · rw [if_pos h1]
    exact or_bd (bt_bd s 31).1 (bt_bd s 31).2
  · rw [if_neg h1]
    by_cases h2 : i = 0
    · rw [if_pos h2]
      exact and_bd (bt_bd s 0).1 (bt_bd s 0).2
    · rw [if_neg h2]
      exact bt_bd s i
theorem clS_size (s : ByteArray) : (clS s).size = 32 := by unfold clS; rw [bs_size]; simp

set_option maxRecDepth 100000 in
set_option maxHeartbeats 1000000 in
theorem clamp_yes (s : ByteArray) (w : World) (hs : s.size = 32) :
    Calls Try.prog 14 #[.string s] w fun r w' => r = .returned (.tuple #[.string (clS s), .int .i64 0]) ∧ Below w.heap.size w w' := by
  have n0 : ((s.size : Int) != 32) = false := by simp [hs]
  obtain ⟨cap, W1, hcv, B, hb⟩ := conv_str w s
  rw [hs] at B
  have c0 := B.c 0 (by omega)
  have c31 := B.c 31 (by omega)
  have f0 := B.fz 0 (by omega)
  have f31 := B.fz 31 (by omega)
  have gl := B.lt
  have B2 := (B.set (k := 0) (by omega) (bits .and .u8 (bt s 0) 248)).set (k := 31) (by omega) (bits .or .u8 (bits .and .u8 (bt s 31) 127) 64)
  have hbk := conv_back (f := clF s) B2 cap (fun i _ => clF_bd s i)
  rw [show bs ((List.range 32).map (clF s)) = clS s from rfl] at hbk
  have OO := hide ((hb.setCell (p := ⟨w.heap.size, 0, none⟩) (Nat.le_refl _) (.int .u8 (bits .and .u8 (bt s 0) 248))).setCell (p := ⟨w.heap.size, 31, none⟩) (Nat.le_refl _) (.int .u8 (bits .or .u8 (bits .and .u8 (bt s 31) 127) 64)))
  clear B2 B hb
  generalize clS s = C at *
  go_enter Try.func14, Try.ntmps14
  go_wp2
  exact bodyPost_ret (v := .tuple #[.string C, .int .i64 0]) (by simp [results, Try.results14, go_sem]) rfl ⟨rfl, OO.out⟩

set_option maxHeartbeats 400000 in
theorem clamp_no (s : ByteArray) (w : World) (hs : s.size ≠ 32) :
    Calls Try.prog 14 #[.string s] w fun r w' => r = .returned (.tuple #[.string ⟨#[]⟩, .int .i64 2]) ∧ Below w.heap.size w w' := by
  have n0 : ((s.size : Int) != 32) = true := by simp; omega
  go_enter Try.func14, Try.ntmps14
  go_wp2
  exact bodyPost_ret (v := .tuple #[.string ⟨#[]⟩, .int .i64 2]) (by simp [results, Try.results14, go_sem]) rfl ⟨rfl, Below.refl _ _⟩

set_option maxRecDepth 100000 in
set_option maxHeartbeats 1000000 in
theorem rclamp_yes (s : ByteArray) (w : World) (hs : s.size = 32) :
    Calls Try.prog 32 #[.string s] w fun r w' => r = .returned (.string (clS s)) ∧ Below w.heap.size w w' := by
  obtain ⟨cap, W1, hcv, B, hb⟩ := conv_str w s
  rw [hs] at B
  have c0 := B.c 0 (by omega)
  have c31 := B.c 31 (by omega)
  have f0 := B.fz 0 (by omega)
  have f31 := B.fz 31 (by omega)
  have gl := B.lt
  have B2 := (B.set (k := 0) (by omega) (bits .and .u8 (bt s 0) 248)).set (k := 31) (by omega) (bits .or .u8 (bits .and .u8 (bt s 31) 127) 64)
  have hbk := conv_back (f := clF s) B2 cap (fun i _ => clF_bd s i)
  rw [show bs ((List.range 32).map (clF s)) = clS s from rfl] at hbk
  have OO := hide ((hb.setCell (p := ⟨w.heap.size, 0, none⟩) (Nat.le_refl _) (.int .u8 (bits .and .u8 (bt s 0) 248))).setCell (p := ⟨w.heap.size, 31, none⟩) (Nat.le_refl _) (.int .u8 (bits .or .u8 (bits .and .u8 (bt s 31) 127) 64)))
  clear B2 B hb
  generalize clS s = C at *
  go_enter Try.func32, Try.ntmps32
  go_wp2
  go_ret
  exact ⟨rfl, OO.out⟩


end Go.Proofs.Ytiiniodidkfbiaa
