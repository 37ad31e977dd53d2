/- What is handed in, opened: rules, steps. -/
import Derived.Test.YtlfekknonjlopaaGM
import Derived.Test.YtlfekknonjlopaaRows
import Derived.ProofKit
import Derived.OpenShut
import Derived.ShutString
import Derived.SizedLaws
import Derived.JoinedCond
import Derived.Deep.SlicePairs
import Derived.Carry
namespace Go.Proofs.Ytlfekknonjlopaa
open Go.ChangeShapes Go.WideShapes Go.ChangeAt Go.RowKit Go.Deep
set_option linter.unusedVariables false
set_option linter.unusedSimpArgs false
set_option maxRecDepth 100000
def blksOf (W : World) : List Blk := (List.range W.heap.size).map fun g => ⟨g, (W.heap[g]?).getD (.cells #[] 0 (0, 0))⟩
theorem mem_blks {W : World} {g : Nat} {Z : Obj} (h : W.heap[g]? = some Z) : (⟨g, Z⟩ : Blk) ∈ blksOf W :=
  List.mem_map.2 ⟨g, List.mem_range.2 (Array.getElem?_eq_some_iff.1 h).1, by rw [h]; rfl⟩
theorem there_blks (W : World) : There S0 W (blksOf W) := by
  refine ⟨fun b hb => ?_, ?_, fun b hb => Nat.zero_le _⟩
  · obtain ⟨g, hg, rfl⟩ := List.mem_map.1 hb
    have hg := List.mem_range.1 hg
    show W.heap[g]? = some _
    rw [Array.getElem?_eq_getElem hg]
    rfl
  · have : (blksOf W).map Blk.g = List.range W.heap.size := by simp [blksOf, Function.comp_def]
    rw [this]
    exact List.nodup_range
theorem cellAt {W : World} {b x : Nat} {v : Value} (h : W.cell? ⟨b, x, none⟩ = some v) : ∃ Z e fr, W.heap[b]? = some (.cells Z e fr) ∧ Z[x]? = some v := by
  unfold World.cell? at h
  split at h
  · rename_i c e fr h1
    exact ⟨c, e, fr, h1, by simpa using h⟩
  · cases h
section
variable {H : Type}
abbrev bulk (d : DataW H) : Nat := Go.Proofs.Ytlfekknonjlopaa.Rows.uptoBulk d
abbrev bulks (d : List (DataW H)) : Nat := Go.Proofs.Ytlfekknonjlopaa.Rows.uptoBulkAll d
theorem bulk_mem {d : DataW H} : ∀ {l : List (DataW H)}, d ∈ l → bulk d ≤ bulks l
  | x :: l, h => by
    rcases List.mem_cons.1 h with rfl | h
    · simp only [bulks, Go.Proofs.Ytlfekknonjlopaa.Rows.uptoBulkAll]
      exact Nat.le_add_right _ _
    · have := bulk_mem h
      simp only [bulks, Go.Proofs.Ytlfekknonjlopaa.Rows.uptoBulkAll] at this ⊢
      omega
theorem bulk_pos (d : DataW H) : 1 ≤ bulk d := by
  cases d <;> unfold bulk Go.Proofs.Ytlfekknonjlopaa.Rows.uptoBulk <;> first | omega | skip
  rename_i l
  cases l <;> simp [Go.Proofs.Ytlfekknonjlopaa.Rows.uptoBulk]
theorem bulk_len : ∀ l : List (DataW H), l.length ≤ bulks l
  | [] => Nat.le_refl _
  | x :: l => by
    have := bulk_len l
    have := bulk_pos x
    simp only [bulks, bulk, Go.Proofs.Ytlfekknonjlopaa.Rows.uptoBulkAll, List.length_cons] at *
    omega
theorem bulk_sl (l m : List (DataW H)) : bulk (.slice l m) = bulks l + bulks m + 1 := by unfold bulk Go.Proofs.Ytlfekknonjlopaa.Rows.uptoBulk; rfl
theorem bulk_ag (l : List (DataW H)) : bulk (.agg l) = bulks l + 1 := by unfold bulk Go.Proofs.Ytlfekknonjlopaa.Rows.uptoBulk; rfl
variable {enc : TypeId × Value → H} {W : World}
abbrev trd (enc : TypeId × Value → H) (W : World) (n : Nat) (T : TypeId) (cs : List Value) (r : Option (DataW H × List MemPlace)) : Prop := DataW.trod enc Try.prog W 0 (fun _ => true) true n T cs = r
/-- A slice's rows. -/
theorem tr_rows {T e : TypeId} {K n : Nat} {v : Value} {y : DataW H × List MemPlace} (ht : Try.prog.underlying T = some (.slice e)) (hK : Try.prog.cellsOf e = K) (h0 : 0 < K) (h : trd enc W n T [v] (some y)) :
    ∃ (len m : Nat) (C : Nat → List Value) (D : Nat → DataW H), Sl (blksOf W) K len (fun i j => (C i).getD j undef) v ∧ len ≤ bulk y.1 ∧ ∀ j, j < len → bulk (D j) ≤ bulk y.1 ∧ (C j).length = K ∧ ∃ q, trd enc W m e (C j) (some (D j, q)) := by
  rcases open_slice ht h with ⟨hc, hx⟩ | ⟨a, len, cap, m, k, D, Pl, hc, _, hl, hm, hmm, hx, hall⟩
  · simp only [List.cons.injEq, and_true] at hc
    subst hc
    exact ⟨0, 0, fun _ => [], fun _ => .nil, ⟨none, 0, 0, 0, rfl, fun h => by omega⟩, Nat.zero_le _, fun j hj => by omega⟩
  · simp only [List.cons.injEq, and_true] at hc
    subst hc
    simp only [if_true] at hmm
    subst hmm
    rw [hK] at hall
    obtain ⟨C, hC⟩ := choose_lt (p := fun i cs' => W.cells? 0 (a.add (i * K)) K = some cs' ∧ DataW.trod enc Try.prog W 0 (fun _ => true) true k e cs' = some (D i, Pl i)) hall
    obtain ⟨b, o, spot⟩ := a
    have hd : y.1 = .slice ((List.range len).map D) ((List.range (m - len)).map fun j => D (len + j)) := congrArg Prod.fst hx
    have hb := bulk_sl ((List.range len).map D) ((List.range (m - len)).map fun j => D (len + j))
    have hlen := bulk_len ((List.range len).map D)
    simp only [List.length_map, List.length_range] at hlen
    rw [hd]
    have hspot : 0 < len → spot = none := fun h1 => by
      obtain ⟨_, h3, h4⟩ := World.cells?_some (hC 0 (by omega)).1
      have h5 := h4 0 h0
      rw [List.getElem?_eq_getElem (by omega)] at h5
      simpa [Addr.add] using World.cell?_spot h5
    have hcell : ∀ j i, j < len → i < K → W.cell? ⟨b, o + j * K + i, none⟩ = (C j)[i]? := fun j i hj hi => by
      obtain ⟨_, h3, h4⟩ := World.cells?_some (hC j (by omega)).1
      have h5 := h4 i hi
      rw [hspot (by omega), add_plain, add_plain] at h5
      exact h5
    have hsz : ∀ j, j < len → (C j).length = K := fun j hj => (World.cells?_some (hC j (by omega)).1).2.1
    refine ⟨len, k, C, D, ⟨some ⟨b, o, spot⟩, m, b, o, rfl, fun hp => ?_⟩, by omega, fun j hj => ⟨?_, hsz j hj, _, (hC j (by omega)).2⟩⟩
    · have h1 := hcell 0 0 hp h0
      rw [List.getElem?_eq_getElem (by rw [hsz 0 hp]; exact h0)] at h1
      obtain ⟨Z, e', fr, hZ, _⟩ := cellAt h1
      refine ⟨by rw [hspot hp], Z, e', fr, mem_blks hZ, fun i j hi hj => ?_⟩
      have h2 := hcell i j hi hj
      rw [List.getElem?_eq_getElem (by rw [hsz i hi]; exact hj)] at h2
      obtain ⟨Z2, e2, fr2, hZ2, hx2⟩ := cellAt h2
      rw [hZ] at hZ2
      cases hZ2
      rw [hx2]
      show _ = some ((C i).getD j undef)
      rw [List.getD_eq_getElem?_getD, List.getElem?_eq_getElem (by rw [hsz i hi]; exact hj)]
      rfl
    · have := bulk_mem (d := D j) (l := (List.range len).map D) (List.mem_map.2 ⟨j, List.mem_range.2 hj, rfl⟩)
      omega
theorem tr_int {n : Nat} {T : TypeId} {k : IntKind} {x : Value} {y : DataW H × List MemPlace} (ht : Try.prog.underlying T = some (.int k)) (h : trd enc W n T [x] (some y)) : ∃ z : Int, x = .int k z ∧ (Lit.int k z).wf = true := by
  obtain ⟨z, e1, _, e3⟩ := DataW.trod_int ht h
  simp only [List.cons.injEq, and_true] at e1
  exact ⟨z, e1, e3⟩
theorem tr_bool {n : Nat} {x : Value} {y : DataW H × List MemPlace} (h : trd enc W n 4 [x] (some y)) : ∃ z : Bool, x = .bool z := by
  obtain ⟨z, e1, _⟩ := DataW.trod_bool Try.underlying4 h
  simp only [List.cons.injEq, and_true] at e1
  exact ⟨z, e1⟩
theorem wf64 {z : Int} (h : (Lit.int .u64 z).wf = true) : 0 ≤ z := by
  have : 0 ≤ z ∧ z ≤ 18446744073709551615 := by simpa [Lit.wf, IntKind.min, IntKind.max, IntKind.signed, IntKind.bits] using h
  exact this.1
theorem wf8 {z : Int} (h : (Lit.int .u8 z).wf = true) : 0 ≤ z ∧ z ≤ 255 := by
  simpa [Lit.wf, IntKind.min, IntKind.max, IntKind.signed, IntKind.bits] using h
theorem wf16 {z : Int} (h : (Lit.int .u16 z).wf = true) : 0 ≤ z ∧ z ≤ 65535 := by
  simpa [Lit.wf, IntKind.min, IntKind.max, IntKind.signed, IntKind.bits] using h
theorem of1 {l : List Value} (h : l.length = 1) : ∃ x0, l = [x0] := by
  match l, h with
  | [x0], _ => exact ⟨x0, rfl⟩
theorem of2 {l : List Value} (h : l.length = 2) : ∃ x0 x1, l = [x0, x1] := by
  match l, h with
  | [x0, x1], _ => exact ⟨x0, x1, rfl⟩
theorem of3 {l : List Value} (h : l.length = 3) : ∃ x0 x1 x2, l = [x0, x1, x2] := by
  match l, h with
  | [x0, x1, x2], _ => exact ⟨x0, x1, x2, rfl⟩
theorem of4 {l : List Value} (h : l.length = 4) : ∃ x0 x1 x2 x3, l = [x0, x1, x2, x3] := by
  match l, h with
  | [x0, x1, x2, x3], _ => exact ⟨x0, x1, x2, x3, rfl⟩
theorem of6 {l : List Value} (h : l.length = 6) : ∃ x0 x1 x2 x3 x4 x5, l = [x0, x1, x2, x3, x4, x5] := by
  match l, h with
  | [x0, x1, x2, x3, x4, x5], _ => exact ⟨x0, x1, x2, x3, x4, x5, rfl⟩
theorem of9 {l : List Value} (h : l.length = 9) : ∃ x0 x1 x2 x3 x4 x5 x6 x7 x8, l = [x0, x1, x2, x3, x4, x5, x6, x7, x8] := by
  match l, h with
  | [x0, x1, x2, x3, x4, x5, x6, x7, x8], _ => exact ⟨x0, x1, x2, x3, x4, x5, x6, x7, x8, rfl⟩
theorem of13 {l : List Value} (h : l.length = 13) : ∃ x0 x1 x2 x3 x4 x5 x6 x7 x8 x9 x10 x11 x12, l = [x0, x1, x2, x3, x4, x5, x6, x7, x8, x9, x10, x11, x12] := by
  match l, h with
  | [x0, x1, x2, x3, x4, x5, x6, x7, x8, x9, x10, x11, x12], _ => exact ⟨x0, x1, x2, x3, x4, x5, x6, x7, x8, x9, x10, x11, x12, rfl⟩
theorem of16 {l : List Value} (h : l.length = 16) : ∃ x0 x1 x2 x3 x4 x5 x6 x7 x8 x9 x10 x11 x12 x13 x14 x15, l = [x0, x1, x2, x3, x4, x5, x6, x7, x8, x9, x10, x11, x12, x13, x14, x15] := by
  match l, h with
  | [x0, x1, x2, x3, x4, x5, x6, x7, x8, x9, x10, x11, x12, x13, x14, x15], _ => exact ⟨x0, x1, x2, x3, x4, x5, x6, x7, x8, x9, x10, x11, x12, x13, x14, x15, rfl⟩
theorem tr39 {n : Nat} {cs : List Value} {y : DataW H × List MemPlace} (h : trd enc W n 39 cs (some y)) : ∃ a : Adr, cs = adC a ∧ 0 ≤ a.h ∧ 0 ≤ a.l := by
  obtain ⟨xs, m, _, hx, hc, hlen, hf⟩ := DataW.trod_struct Try.underlying39 h
  have hc : cs.length = 3 := hc
  have hlen : xs.length = 3 := hlen
  obtain ⟨x0, x1, x2, rfl⟩ := of3 hc
  have f0 : trd enc W m 4 [x0] (xs[0]?) := hf 0 _ rfl
  rw [List.getElem?_eq_getElem (by omega)] at f0
  have f1 : trd enc W m 23 [x1] (xs[1]?) := hf 1 _ rfl
  rw [List.getElem?_eq_getElem (by omega)] at f1
  have f2 : trd enc W m 23 [x2] (xs[2]?) := hf 2 _ rfl
  rw [List.getElem?_eq_getElem (by omega)] at f2
  obtain ⟨a0, rfl⟩ := tr_bool f0
  obtain ⟨a1, rfl, r1⟩ := tr_int Try.underlying23 f1
  obtain ⟨a2, rfl, r2⟩ := tr_int Try.underlying23 f2
  exact ⟨(a0, a1, a2), rfl, wf64 r1, wf64 r2⟩
theorem tr42 {n : Nat} {cs : List Value} {y : DataW H × List MemPlace} (h : trd enc W n 42 cs (some y)) : ∃ a : Flw, cs = flC a ∧ 0 ≤ a.p ∧ a.p ≤ 255 := by
  obtain ⟨xs, m, _, hx, hc, hlen, hf⟩ := DataW.trod_struct Try.underlying42 h
  have hc : cs.length = 9 := hc
  have hlen : xs.length = 5 := hlen
  obtain ⟨x0, x1, x2, x3, x4, x5, x6, x7, x8, rfl⟩ := of9 hc
  have f0 : trd enc W m 5 [x0] (xs[0]?) := hf 0 _ rfl
  rw [List.getElem?_eq_getElem (by omega)] at f0
  have f1 : trd enc W m 39 [x1, x2, x3] (xs[1]?) := hf 1 _ rfl
  rw [List.getElem?_eq_getElem (by omega)] at f1
  have f2 : trd enc W m 39 [x4, x5, x6] (xs[2]?) := hf 2 _ rfl
  rw [List.getElem?_eq_getElem (by omega)] at f2
  have f3 : trd enc W m 40 [x7] (xs[3]?) := hf 3 _ rfl
  rw [List.getElem?_eq_getElem (by omega)] at f3
  have f4 : trd enc W m 40 [x8] (xs[4]?) := hf 4 _ rfl
  rw [List.getElem?_eq_getElem (by omega)] at f4
  obtain ⟨a0, rfl, r0⟩ := tr_int Try.underlying5 f0
  obtain ⟨a1, e1, r1⟩ := tr39 f1
  cases e1
  obtain ⟨a2, e2, r2⟩ := tr39 f2
  cases e2
  obtain ⟨a3, rfl, r3⟩ := tr_int Try.underlying40 f3
  obtain ⟨a4, rfl, r4⟩ := tr_int Try.underlying40 f4
  exact ⟨(a0, a1, a2, a3, a4), rfl, (wf8 r0).1, (wf8 r0).2⟩
theorem tr44 {n : Nat} {cs : List Value} {y : DataW H × List MemPlace} (h : trd enc W n 44 cs (some y)) : ∃ h : Hed, cs = [.int .u8 h.f.p, .bool h.f.s.v, .int .u64 h.f.s.h, .int .u64 h.f.s.l, .bool h.f.d.v, .int .u64 h.f.d.h, .int .u64 h.f.d.l, .int .u16 h.f.fr, .int .u16 h.f.to, .int .u8 h.g, .int .u8 h.k, .int .u8 h.c, .int .i64 h.z] := by
  obtain ⟨xs, m, _, hx, hc, hlen, hf⟩ := DataW.trod_struct Try.underlying44 h
  have hc : cs.length = 13 := hc
  have hlen : xs.length = 5 := hlen
  obtain ⟨x0, x1, x2, x3, x4, x5, x6, x7, x8, x9, x10, x11, x12, rfl⟩ := of13 hc
  have f0 : trd enc W m 42 [x0, x1, x2, x3, x4, x5, x6, x7, x8] (xs[0]?) := hf 0 _ rfl
  rw [List.getElem?_eq_getElem (by omega)] at f0
  have f1 : trd enc W m 5 [x9] (xs[1]?) := hf 1 _ rfl
  rw [List.getElem?_eq_getElem (by omega)] at f1
  have f2 : trd enc W m 5 [x10] (xs[2]?) := hf 2 _ rfl
  rw [List.getElem?_eq_getElem (by omega)] at f2
  have f3 : trd enc W m 5 [x11] (xs[3]?) := hf 3 _ rfl
  rw [List.getElem?_eq_getElem (by omega)] at f3
  have f4 : trd enc W m 3 [x12] (xs[4]?) := hf 4 _ rfl
  rw [List.getElem?_eq_getElem (by omega)] at f4
  obtain ⟨a0, e0, r0⟩ := tr42 f0
  cases e0
  obtain ⟨a1, rfl, r1⟩ := tr_int Try.underlying5 f1
  obtain ⟨a2, rfl, r2⟩ := tr_int Try.underlying5 f2
  obtain ⟨a3, rfl, r3⟩ := tr_int Try.underlying5 f3
  obtain ⟨a4, rfl, r4⟩ := tr_int Try.underlying3 f4
  exact ⟨⟨a0, a1, a2, a3, a4⟩, rfl⟩
theorem tr73 {n : Nat} {cs : List Value} {y : DataW H × List MemPlace} (h : trd enc W n 73 cs (some y)) : ∃ s : Spn, cs = spC s ∧ 0 ≤ s.a.l ∧ 0 ≤ s.b.l := by
  obtain ⟨xs, m, _, hx, hc, hlen, hf⟩ := DataW.trod_struct Try.underlying73 h
  have hc : cs.length = 6 := hc
  have hlen : xs.length = 2 := hlen
  obtain ⟨x0, x1, x2, x3, x4, x5, rfl⟩ := of6 hc
  have f0 : trd enc W m 39 [x0, x1, x2] (xs[0]?) := hf 0 _ rfl
  rw [List.getElem?_eq_getElem (by omega)] at f0
  have f1 : trd enc W m 39 [x3, x4, x5] (xs[1]?) := hf 1 _ rfl
  rw [List.getElem?_eq_getElem (by omega)] at f1
  obtain ⟨a0, e0, r0⟩ := tr39 f0
  cases e0
  obtain ⟨a1, e1, r1⟩ := tr39 f1
  cases e1
  exact ⟨(a0, a1), rfl, r0.2, r1.2⟩
theorem tr75 {n : Nat} {cs : List Value} {y : DataW H × List MemPlace} (h : trd enc W n 75 cs (some y)) : ∃ s : Prt, cs = ptC s := by
  obtain ⟨xs, m, _, hx, hc, hlen, hf⟩ := DataW.trod_struct Try.underlying75 h
  have hc : cs.length = 2 := hc
  have hlen : xs.length = 2 := hlen
  obtain ⟨x0, x1, rfl⟩ := of2 hc
  have f0 : trd enc W m 40 [x0] (xs[0]?) := hf 0 _ rfl
  rw [List.getElem?_eq_getElem (by omega)] at f0
  have f1 : trd enc W m 40 [x1] (xs[1]?) := hf 1 _ rfl
  rw [List.getElem?_eq_getElem (by omega)] at f1
  obtain ⟨a0, rfl, r0⟩ := tr_int Try.underlying40 f0
  obtain ⟨a1, rfl, r1⟩ := tr_int Try.underlying40 f1
  exact ⟨(a0, a1), rfl⟩
theorem tr63 {n : Nat} {v : Value} {y : DataW H × List MemPlace} (h : trd enc W n 63 [v] (some y)) : ∃ l : List Int, u8T (blksOf W) l v ∧ l.length ≤ bulk y.1 := by
  obtain ⟨len, m, C, D, hS, hl, hr⟩ := tr_rows Try.underlying63 (K := 1) (by kernel_rfl) (by decide) h
  have hp : ∀ i, i < len → ∃ z : Int, C i = u8C z := fun i hi => by
    obtain ⟨_, h1, q, h2⟩ := hr i hi
    obtain ⟨x, hx⟩ := of1 h1
    rw [hx] at h2
    obtain ⟨z, rfl, _⟩ := tr_int Try.underlying5 h2
    exact ⟨z, hx⟩
  obtain ⟨Y, hY⟩ := choose_lt hp
  refine ⟨(List.range len).map Y, ?_, by simpa using hl⟩
  have hlen : ((List.range len).map Y).length = len := by simp
  show Sl _ _ (List.length _) _ _
  rw [hlen]
  refine hS.congr fun i j hi hj => ?_
  rw [hY i hi]
  have hg : ((List.range len).map Y).getD i 0 = Y i := by
    rw [List.getD_eq_getElem?_getD, List.getElem?_map, List.getElem?_range hi]
    rfl
  show _ = (u8C (((List.range len).map Y).getD i 0)).getD j undef
  rw [hg]
theorem tr64 {n : Nat} {v : Value} {y : DataW H × List MemPlace} (h : trd enc W n 64 [v] (some y)) : ∃ l : List Spn, spT (blksOf W) l v ∧ l.length ≤ bulk y.1 ∧ spNn l := by
  obtain ⟨len, m, C, D, hS, hl, hr⟩ := tr_rows Try.underlying64 (K := 6) (by kernel_rfl) (by decide) h
  have hp : ∀ i, i < len → ∃ z : Spn, C i = spC z ∧ 0 ≤ z.a.l ∧ 0 ≤ z.b.l := fun i hi => by
    obtain ⟨_, h1, q, h2⟩ := hr i hi
    obtain ⟨z, hz, hz2⟩ := tr73 h2
    exact ⟨z, hz, hz2⟩
  obtain ⟨Y, hY⟩ := choose_lt hp
  refine ⟨(List.range len).map Y, ?_, by simpa using hl, fun i hi => ?_⟩
  rotate_left
  · have hi : i < len := by simpa using hi
    rw [List.getD_eq_getElem?_getD, List.getElem?_map, List.getElem?_range hi]
    exact (hY i hi).2
  have hlen : ((List.range len).map Y).length = len := by simp
  show Sl _ _ (List.length _) _ _
  rw [hlen]
  refine hS.congr fun i j hi hj => ?_
  rw [(hY i hi).1]
  have hg : ((List.range len).map Y).getD i sp0 = Y i := by
    rw [List.getD_eq_getElem?_getD, List.getElem?_map, List.getElem?_range hi]
    rfl
  show _ = (spC (((List.range len).map Y).getD i sp0)).getD j undef
  rw [hg]
theorem tr65 {n : Nat} {v : Value} {y : DataW H × List MemPlace} (h : trd enc W n 65 [v] (some y)) : ∃ l : List Prt, ptT (blksOf W) l v ∧ l.length ≤ bulk y.1 := by
  obtain ⟨len, m, C, D, hS, hl, hr⟩ := tr_rows Try.underlying65 (K := 2) (by kernel_rfl) (by decide) h
  have hp : ∀ i, i < len → ∃ z : Prt, C i = ptC z := fun i hi => by
    obtain ⟨_, h1, q, h2⟩ := hr i hi
    obtain ⟨z, hz⟩ := tr75 h2
    exact ⟨z, hz⟩
  obtain ⟨Y, hY⟩ := choose_lt hp
  refine ⟨(List.range len).map Y, ?_, by simpa using hl⟩
  have hlen : ((List.range len).map Y).length = len := by simp
  show Sl _ _ (List.length _) _ _
  rw [hlen]
  refine hS.congr fun i j hi hj => ?_
  rw [hY i hi]
  have hg : ((List.range len).map Y).getD i pt0 = Y i := by
    rw [List.getD_eq_getElem?_getD, List.getElem?_map, List.getElem?_range hi]
    rfl
  show _ = (ptC (((List.range len).map Y).getD i pt0)).getD j undef
  rw [hg]
theorem tr67 {n : Nat} {cs : List Value} {y : DataW H × List MemPlace} (h : trd enc W n 67 cs (some y)) (hb : bulk y.1 ≤ 1048576) : ∃ r : Rul, cs.length = 4 ∧ RulI (blksOf W) r (fun j => cs.getD j undef) ∧ r.ok ∧ spNn r.s ∧ spNn r.d := by
  obtain ⟨xs, m, _, hx, hc, hlen, hf⟩ := DataW.trod_struct Try.underlying67 h
  have hc : cs.length = 4 := hc
  have hlen : xs.length = 4 := hlen
  have hx1 : y.1 = .agg (xs.map (·.1)) := congrArg Prod.fst hx
  rw [hx1, bulk_ag] at hb
  obtain ⟨x0, x1, x2, x3, rfl⟩ := of4 hc
  have hbi : ∀ i (hi : i < xs.length), bulk (xs[i]).1 ≤ 1048576 := fun i hi => by
    have := bulk_mem (d := (xs[i]).1) (l := xs.map (·.1)) (List.mem_map.2 ⟨_, List.getElem_mem hi, rfl⟩)
    omega
  have f0 : trd enc W m 63 [x0] (xs[0]?) := hf 0 _ rfl
  have f1 : trd enc W m 64 [x1] (xs[1]?) := hf 1 _ rfl
  have f2 : trd enc W m 64 [x2] (xs[2]?) := hf 2 _ rfl
  have f3 : trd enc W m 65 [x3] (xs[3]?) := hf 3 _ rfl
  rw [List.getElem?_eq_getElem (by omega)] at f0 f1 f2 f3
  obtain ⟨l0, g0, b0⟩ := tr63 f0
  obtain ⟨l1, g1, b1, n1⟩ := tr64 f1
  obtain ⟨l2, g2, b2, n2⟩ := tr64 f2
  obtain ⟨l3, g3, b3⟩ := tr65 f3
  exact ⟨(l0, l1, l2, l3), rfl, ⟨g0, g1, g2, g3⟩, ⟨Nat.le_trans b0 (hbi 0 _), Nat.le_trans b1 (hbi 1 _), Nat.le_trans b2 (hbi 2 _), Nat.le_trans b3 (hbi 3 _)⟩, n1, n2⟩
theorem ru0_ok : ru0.ok := by refine ⟨?_, ?_, ?_, ?_⟩ <;> exact Nat.zero_le _
theorem tr22 {n : Nat} {v : Value} {y : DataW H × List MemPlace} (h : trd enc W n 22 [v] (some y)) (hb : bulk y.1 ≤ 1048576) : ∃ l : List Rul, rulT (blksOf W) l v ∧ rulOk l ∧ rulNn l := by
  obtain ⟨len, m, C, D, hS, hl, hr⟩ := tr_rows Try.underlying22 (K := 4) (by kernel_rfl) (by decide) h
  have hp : ∀ i, i < len → ∃ r : Rul, RulI (blksOf W) r (fun j => (C i).getD j undef) ∧ r.ok ∧ spNn r.s ∧ spNn r.d := fun i hi => by
    obtain ⟨h3, h1, q, h2⟩ := hr i hi
    obtain ⟨r, _, h4⟩ := tr67 h2 (Nat.le_trans h3 hb)
    exact ⟨r, h4⟩
  obtain ⟨Y, hY⟩ := choose_lt hp
  have hlen : ((List.range len).map Y).length = len := by simp
  have hg : ∀ i, i < len → ((List.range len).map Y).getD i ru0 = Y i := fun i hi => by
    rw [List.getD_eq_getElem?_getD, List.getElem?_map, List.getElem?_range hi]
    rfl
  refine ⟨(List.range len).map Y, ⟨fun i j => (C i).getD j undef, by rw [hlen]; exact hS, fun i hi => ?_⟩, ⟨by rw [hlen]; omega, fun i => ?_⟩, fun i hi => ?_⟩
  · rw [hlen] at hi
    rw [hg i hi]
    exact (hY i hi).1
  · by_cases hi : i < len
    · rw [hg i hi]
      exact (hY i hi).2.1
    · rw [List.getD_eq_getElem?_getD, List.getElem?_eq_none (by rw [hlen]; omega)]
      exact ru0_ok
  · rw [hlen] at hi
    rw [hg i hi]
    exact (hY i hi).2.2
theorem tr46 {n : Nat} {cs : List Value} {y : DataW H × List MemPlace} (h : trd enc W n 46 cs (some y)) (hb : bulk y.1 ≤ 1048576) : ∃ (s : Stp) (v : Value), cs = stC s v ∧ 0 ≤ s.n ∧ rulT (blksOf W) s.r v ∧ rulOk s.r ∧ rulNn s.r := by
  obtain ⟨xs, m, _, hx, hc, hlen, hf⟩ := DataW.trod_struct Try.underlying46 h
  have hc : cs.length = 16 := hc
  have hlen : xs.length = 4 := hlen
  have hx1 : y.1 = .agg (xs.map (·.1)) := congrArg Prod.fst hx
  rw [hx1, bulk_ag] at hb
  obtain ⟨x0, x1, x2, x3, x4, x5, x6, x7, x8, x9, x10, x11, x12, x13, x14, x15, rfl⟩ := of16 hc
  have hbi : ∀ i (hi : i < xs.length), bulk (xs[i]).1 ≤ 1048576 := fun i hi => by
    have := bulk_mem (d := (xs[i]).1) (l := xs.map (·.1)) (List.mem_map.2 ⟨_, List.getElem_mem hi, rfl⟩)
    omega
  have f0 : trd enc W m 3 [x0] (xs[0]?) := hf 0 _ rfl
  have f1 : trd enc W m 44 [x1, x2, x3, x4, x5, x6, x7, x8, x9, x10, x11, x12, x13] (xs[1]?) := hf 1 _ rfl
  have f2 : trd enc W m 23 [x14] (xs[2]?) := hf 2 _ rfl
  have f3 : trd enc W m 22 [x15] (xs[3]?) := hf 3 _ rfl
  rw [List.getElem?_eq_getElem (by omega)] at f0 f1 f2 f3
  obtain ⟨a0, rfl, _⟩ := tr_int Try.underlying3 f0
  obtain ⟨a1, e1⟩ := tr44 f1
  obtain ⟨a2, rfl, r2⟩ := tr_int Try.underlying23 f2
  obtain ⟨l3, g3, g4, g5⟩ := tr22 f3 (hbi 3 _)
  cases e1
  exact ⟨⟨a0, a1, a2, l3⟩, x15, rfl, wf64 r2, g3, g4, g5⟩
theorem tr24 {n : Nat} {v : Value} {y : DataW H × List MemPlace} (h : trd enc W n 24 [v] (some y)) (hb : bulk y.1 ≤ 1048576) : ∃ S : List Stp, stpT (blksOf W) S v ∧ stpOk S ∧ ∀ i, i < S.length → rulNn (S.getD i st0).r ∧ 0 ≤ (S.getD i st0).n := by
  obtain ⟨len, m, C, D, hS, hl, hr⟩ := tr_rows Try.underlying24 (K := 16) (by kernel_rfl) (by decide) h
  have hp : ∀ i, i < len → ∃ p : Stp × Value, C i = stC p.1 p.2 ∧ 0 ≤ p.1.n ∧ rulT (blksOf W) p.1.r p.2 ∧ rulOk p.1.r ∧ rulNn p.1.r := fun i hi => by
    obtain ⟨h3, h1, q, h2⟩ := hr i hi
    obtain ⟨s, v, h4⟩ := tr46 h2 (Nat.le_trans h3 hb)
    exact ⟨(s, v), h4⟩
  haveI : Inhabited (Stp × Value) := ⟨(st0, undef)⟩
  obtain ⟨Y, hY⟩ := choose_lt hp
  have hlen : ((List.range len).map fun i => (Y i).1).length = len := by simp
  have hg : ∀ i, i < len → ((List.range len).map fun i => (Y i).1).getD i st0 = (Y i).1 := fun i hi => by
    rw [List.getD_eq_getElem?_getD, List.getElem?_map, List.getElem?_range hi]
    rfl
  refine ⟨(List.range len).map fun i => (Y i).1, ⟨fun i => (Y i).2, ?_, fun i hi => ?_⟩, ⟨by rw [hlen]; omega, fun i => ?_⟩, fun i hi => ?_⟩
  · rw [hlen]
    refine hS.congr fun i j hi hj => ?_
    rw [(hY i hi).1]
    show _ = (stC (List.getD _ i st0) _).getD j undef
    rw [hg i hi]
  · rw [hlen] at hi
    rw [hg i hi]
    exact (hY i hi).2.2.1
  · by_cases hi : i < len
    · rw [hg i hi]
      exact (hY i hi).2.2.2.1
    · rw [List.getD_eq_getElem?_getD, List.getElem?_eq_none (by rw [hlen]; omega)]
      exact ⟨Nat.zero_le _, fun i => ru0_ok⟩
  · rw [hlen] at hi
    rw [hg i hi]
    exact ⟨(hY i hi).2.2.2.2, (hY i hi).2.1⟩
end
end Go.Proofs.Ytlfekknonjlopaa
