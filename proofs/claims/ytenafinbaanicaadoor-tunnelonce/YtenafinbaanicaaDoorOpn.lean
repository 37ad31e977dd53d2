/- What the arguments are, opened. -/
import Derived.Test.YtenafinbaanicaaDoorW0
import Derived.ProofKit
import Derived.OpenShut
import Derived.ShutString
import Derived.SizedLaws
import Derived.Deep.SlicePairs
import Derived.Carry
namespace Go.Proofs.YtenafinbaanicaaDoor
open Go.ChangeShapes Go.WideShapes Go.ChangeAt Go.RowKit Go.Deep
set_option maxRecDepth 100000

theorem laidOut : laidOutB Tryd.prog = true := by kernel_rfl
theorem ownNone : ownKnob Tryd.prog.godebug = none := by kernel_rfl
section
variable {W : World} {b0 : Nat} {v : Value}
set_option maxRecDepth 100000 in
theorem cell_bool (h : Cell.okWide Tryd.prog W .any b0 4 v) : ∃ b, v = .bool b := by
  simp only [Cell.okWide, Tryd.underlying4] at h
  cases v <;> simp_all [Cell.ok, Tryd.underlying4]
set_option maxRecDepth 100000 in
theorem cell_u64 (h : Cell.okWide Tryd.prog W .any b0 22 v) : ∃ n, v = .int .u64 n ∧ 0 ≤ n ∧ n < 18446744073709551616 := by
  simp only [Cell.okWide, Tryd.underlying22] at h
  cases v <;> simp_all [Cell.ok, Tryd.underlying22]
  rename_i k n
  obtain ⟨rfl, h1, h2⟩ := h
  simp [IntKind.min, IntKind.max, IntKind.bits, IntKind.signed] at h1 h2
  exact ⟨h1, by omega⟩
set_option maxRecDepth 100000 in
theorem cell_u8 (h : Cell.okWide Tryd.prog W .any b0 5 v) : ∃ n, v = .int .u8 n ∧ 0 ≤ n ∧ n < 256 := by
  simp only [Cell.okWide, Tryd.underlying5] at h
  cases v <;> simp_all [Cell.ok, Tryd.underlying5]
  rename_i k n
  obtain ⟨rfl, h1, h2⟩ := h
  simp [IntKind.min, IntKind.max, IntKind.bits, IntKind.signed] at h1 h2
  exact ⟨h1, by omega⟩
set_option maxRecDepth 100000 in
theorem cell_str (h : Cell.okWide Tryd.prog W .any b0 9 v) : ∃ s, v = .string s := by
  simp only [Cell.okWide, Tryd.underlying9] at h
  cases v <;> simp_all [Cell.ok, Tryd.underlying9]
set_option maxRecDepth 100000 in
theorem cell_i64 (h : Cell.okWide Tryd.prog W .any b0 3 v) : ∃ n, v = .int .i64 n ∧ -9223372036854775808 ≤ n ∧ n < 9223372036854775808 := by
  simp only [Cell.okWide, Tryd.underlying3] at h
  cases v <;> simp_all [Cell.ok, Tryd.underlying3]
  rename_i k n
  obtain ⟨rfl, h1, h2⟩ := h
  simp [IntKind.min, IntKind.max, IntKind.bits, IntKind.signed] at h1 h2
  exact ⟨h1, by omega⟩
set_option maxRecDepth 100000 in
theorem op9 (h : Value.okWide Tryd.prog W .any b0 9 v) : ∃ s, v = .string s := by
  simp only [Value.okWide, Tryd.underlying9] at h
  exact cell_str h
set_option maxRecDepth 100000 in
theorem op5 (h : Value.okWide Tryd.prog W .any b0 5 v) : ∃ n, v = .int .u8 n ∧ 0 ≤ n ∧ n < 256 := by
  simp only [Value.okWide, Tryd.underlying5] at h
  exact cell_u8 h
set_option maxRecDepth 100000 in
theorem row_av (cs : Array Value) (l : List Value) (hs : cs.size = l.length) (h : ∀ i, i < l.length → cs[i]? = l[i]?) : cs = av l.length (ls l) := by
  apply Array.ext_getElem?
  intro i
  by_cases hi : i < l.length
  · rw [h i hi, av_get _ _ _ hi]
    unfold ls
    rw [getD_app, List.getElem?_eq_getElem hi]
    rfl
  · rw [Array.getElem?_eq_none (by omega), Array.getElem?_eq_none (by rw [av_size]; omega)]
end
set_option maxRecDepth 100000 in
theorem row_cells {W : World} {b0 : Nat} {t : TypeId} {v : Value} {fs : Array Field} {ts : List TypeId} (ht : Tryd.prog.underlying t = some (.struct fs)) (hc : Tryd.prog.cellTypes Tryd.prog.depth t = some ts) (hn : Tryd.prog.cellsOf t = ts.length) (h : Value.okWide Tryd.prog W .any b0 t v) : ∃ cs, v = .agg cs ∧ cs.size = ts.length ∧ ∀ (i : Nat) (u : TypeId), ts[i]? = some u → ∃ x, cs[i]? = some x ∧ Cell.okWide Tryd.prog W .any b0 u x := by
  simp only [Value.okWide, ht] at h
  obtain ⟨cs, rfl, h2, ts2, h3, _, h4⟩ := h
  rw [hc] at h3
  cases h3
  refine ⟨cs, rfl, by omega, fun i u hu => ?_⟩
  have hi := (List.getElem?_eq_some_iff.1 hu).1
  obtain ⟨u2, hu2, hx⟩ := h4 i cs[i] (Array.getElem?_eq_getElem (by omega))
  rw [Nat.mod_eq_of_lt hi, hu] at hu2
  cases hu2
  exact ⟨cs[i], Array.getElem?_eq_getElem (by omega), hx⟩
theorem op_lim {W : World} {b0 : Nat} {v : Value} (h : Value.okWide Tryd.prog W .any b0 24 v) : ∃ (a b c d : Nat) (z : Int), v = .agg (av 5 (ls [.int .u64 (a : Int), .int .u64 (b : Int), .int .u64 (c : Int), .int .u64 (d : Int), .int .i64 z])) ∧ -9223372036854775808 ≤ z ∧ z < 9223372036854775808 := by
  obtain ⟨cs, rfl, hs, hc⟩ := row_cells (ts := [22, 22, 22, 22, 3]) Tryd.underlying24 (by kernel_rfl) (by kernel_rfl) h
  obtain ⟨x0, e0, o0⟩ := hc 0 22 rfl
  obtain ⟨y0, rfl, r0, _⟩ := cell_u64 o0
  obtain ⟨x1, e1, o1⟩ := hc 1 22 rfl
  obtain ⟨y1, rfl, r1, _⟩ := cell_u64 o1
  obtain ⟨x2, e2, o2⟩ := hc 2 22 rfl
  obtain ⟨y2, rfl, r2, _⟩ := cell_u64 o2
  obtain ⟨x3, e3, o3⟩ := hc 3 22 rfl
  obtain ⟨y3, rfl, r3, _⟩ := cell_u64 o3
  obtain ⟨x4, e4, o4⟩ := hc 4 3 rfl
  obtain ⟨y4, rfl, r4⟩ := cell_i64 o4
  refine ⟨y0.toNat, y1.toNat, y2.toNat, y3.toNat, y4, ?_, r4⟩
  rw [Int.toNat_of_nonneg r0, Int.toNat_of_nonneg r1, Int.toNat_of_nonneg r2, Int.toNat_of_nonneg r3]
  refine congrArg Value.agg (row_av cs [.int .u64 y0, .int .u64 y1, .int .u64 y2, .int .u64 y3, .int .i64 y4] hs fun i hi => ?_)
  rcases i with _ | _ | _ | _ | _ | i
  · exact e0
  · exact e1
  · exact e2
  · exact e3
  · exact e4
  · exact absurd hi (by simp)
theorem wt_cons {H : Type} (P : Program) (t : TypeId) (ts : List TypeId) (d : DataW H) (r : List (DataW H)) (h : (DataW.weightsEach P (t :: ts) (d :: r)).all (· ≤ reachBytes) = true) : (d.weights P t).all (· ≤ reachBytes) = true ∧ (DataW.weightsEach P ts r).all (· ≤ reachBytes) = true := by
  simp only [DataW.weightsEach, List.all_append, Bool.and_eq_true] at h
  exact h
theorem wt_all {H : Type} (P : Program) (e : TypeId) : ∀ (l : List (DataW H)), (DataW.weightsAll P e l).all (· ≤ reachBytes) = true → ∀ d ∈ l, (d.weights P e).all (· ≤ reachBytes) = true
  | [], _, d, hd => by cases hd
  | x :: l, h, d, hd => by
    simp only [DataW.weightsAll, List.all_append, Bool.and_eq_true] at h
    rcases List.mem_cons.1 hd with rfl | hd
    · exact h.1
    · exact wt_all P e l h.2 d hd
theorem wt_text {H : Type} (P : Program) (t : TypeId) (s : ByteArray) (h : ((DataW.lit (.string s.data.toList) : DataW H).weights P t).all (· ≤ reachBytes) = true) : s.size ≤ 140737488351232 := by
  simp only [DataW.weights, List.all_cons, List.all_nil, Bool.and_true, reachBytes] at h
  have h1 := of_decide_eq_true h
  have e : s.data.toList.length = s.size := rfl
  omega
section
variable {H : Type} {enc : TypeId × Value → H}
/-- A slice of elements of K cells, opened. -/
theorem open_rows {T e : TypeId} {K : Nat} {W : World} {b0 : Nat} {v : Value} {d : DataW H} {p : List MemPlace} (ht : Tryd.prog.underlying T = some (.slice e)) (hK : Tryd.prog.cellsOf e = K) (h0 : 0 < K) (hval : Value.okWide Tryd.prog W .any b0 T v) (h : DataW.Trod enc Tryd.prog W 0 (fun _ => true) true T v d p) (hw : (d.weights Tryd.prog T).all (· ≤ reachBytes) = true) :
    ∃ (l : Option Addr) (b o len cap n : Nat) (C : Nat → List Value) (D : Nat → DataW H), v = .slice l len cap ∧ len ≤ 9223372036854775807 ∧ (0 < len → l = some ⟨b, o, none⟩) ∧ ∀ j, j < len → (C j).length = K ∧ (∀ i x, (C j)[i]? = some x → W.cell? ⟨b, o + j * K + i, none⟩ = some x) ∧ (∃ q, DataW.trod enc Tryd.prog W 0 (fun _ => true) true n e (C j) = some (D j, q)) ∧ ((D j).weights Tryd.prog e).all (· ≤ reachBytes) = true := by
  obtain ⟨l, len, cap, rfl⟩ := okWide_slice ht hval
  obtain ⟨n, h⟩ := h
  rcases open_slice ht h with ⟨hc, hx⟩ | ⟨a, len', cap', m, k, D, Pl, hc, _, hl, hm, hmm, hx, hall⟩
  · simp [Value.cells] at hc
    obtain ⟨rfl, rfl, rfl⟩ := hc
    exact ⟨none, 0, 0, 0, 0, 0, fun _ => [], fun _ => .nil, rfl, by omega, fun h => by omega, fun j h => by omega⟩
  · simp [Value.cells] at hc
    obtain ⟨rfl, rfl, rfl⟩ := hc
    simp only [if_true] at hmm
    subst hmm
    rw [hK] at hall
    obtain ⟨C, hC⟩ := choose_lt (p := fun i cs' => W.cells? 0 (a.add (i * K)) K = some cs' ∧ DataW.trod enc Tryd.prog W 0 (fun _ => true) true k e cs' = some (D i, Pl i)) hall
    obtain ⟨b, o, spot⟩ := a
    have hspot : 0 < len → spot = none := fun h1 => by
      obtain ⟨_, h3, h4⟩ := World.cells?_some (hC 0 (by omega)).1
      have h5 := h4 0 h0
      rw [List.getElem?_eq_getElem (by omega)] at h5
      simpa [Addr.add] using World.cell?_spot h5
    have hml : maxLen = 9223372036854775807 := rfl
    have hd : d = .slice ((List.range len).map D) ((List.range (m - len)).map fun j => D (len + j)) := congrArg Prod.fst hx
    subst hd
    unfold DataW.weights at hw
    rw [ht] at hw
    simp only [List.all_cons, List.all_append, Bool.and_eq_true] at hw
    refine ⟨_, b, o, len, m, k, C, D, rfl, by omega, fun h1 => by rw [hspot h1], fun j hj => ?_⟩
    obtain ⟨h1, h2⟩ := hC j (by omega)
    obtain ⟨_, h3, h4⟩ := World.cells?_some h1
    refine ⟨h3, fun i x hi => ?_, ⟨_, h2⟩, wt_all _ _ _ hw.2.1 _ (List.mem_map.2 ⟨j, List.mem_range.2 hj, rfl⟩)⟩
    have h5 := h4 i (by have := (List.getElem?_eq_some_iff.1 hi).1; omega)
    rw [hspot (by omega), add_plain, add_plain, hi] at h5
    exact h5
theorem one_of {l : List Value} (h : l.length = 1) : ∃ x, l = [x] := by
  match l, h with
  | [x], _ => exact ⟨x, rfl⟩
theorem open_texts {T : TypeId} {W : World} {b0 : Nat} {v : Value} {d : DataW H} {p : List MemPlace} (ht : Tryd.prog.underlying T = some (.slice 9)) (hval : Value.okWide Tryd.prog W .any b0 T v) (h : DataW.Trod enc Tryd.prog W 0 (fun _ => true) true T v d p) (hw : (d.weights Tryd.prog T).all (· ≤ reachBytes) = true) :
    ∃ (l : Option Addr) (b o len cap : Nat) (Y : Nat → ByteArray), v = .slice l len cap ∧ len ≤ 9223372036854775807 ∧ (0 < len → l = some ⟨b, o, none⟩) ∧ (∀ j, j < len → W.cell? ⟨b, o + j * 1, none⟩ = some (.string (Y j))) ∧ ∀ j, j < len → (Y j).size ≤ 140737488351232 := by
  obtain ⟨l, b, o, len, cap, n, C, D, rfl, hm, hl, hC⟩ := open_rows ht (K := 1) (by kernel_rfl) (by decide) hval h hw
  have hs : ∀ i, i < len → ∃ s, C i = [.string s] ∧ s.size ≤ 140737488351232 := fun i hi => by
    obtain ⟨h1, h2, ⟨q, h3⟩, h4⟩ := hC i hi
    obtain ⟨s, e1, e2, _⟩ := DataW.trod_string Tryd.underlying9 h3
    have e3 : D i = .lit (.string s.data.toList) := congrArg Prod.fst e2
    rw [e3] at h4
    exact ⟨s, e1, wt_text _ _ s h4⟩
  obtain ⟨Y, hY⟩ := choose_lt hs
  exact ⟨l, b, o, len, cap, Y, rfl, hm, hl, fun j hj => (hC j hj).2.1 0 _ (by rw [(hY j hj).1]; rfl), fun j hj => (hY j hj).2⟩
theorem open_bytes {T : TypeId} {W : World} {b0 : Nat} {v : Value} {d : DataW H} {p : List MemPlace} (ht : Tryd.prog.underlying T = some (.slice 5)) (hval : Value.okWide Tryd.prog W .any b0 T v) (h : DataW.Trod enc Tryd.prog W 0 (fun _ => true) true T v d p) (hw : (d.weights Tryd.prog T).all (· ≤ reachBytes) = true) :
    ∃ (l : Option Addr) (b o len cap : Nat) (X : Nat → Nat), v = .slice l len cap ∧ len ≤ 9223372036854775807 ∧ (0 < len → l = some ⟨b, o, none⟩) ∧ (∀ j, j < len → W.cell? ⟨b, o + j * 1, none⟩ = some (.int .u8 ((X j : Nat) : Int))) ∧ ∀ j, j < len → X j < 256 := by
  obtain ⟨l, b, o, len, cap, n, C, D, rfl, hm, hl, hC⟩ := open_rows ht (K := 1) (by kernel_rfl) (by decide) hval h hw
  have hs : ∀ i, i < len → ∃ x : Nat, C i = [.int .u8 (x : Int)] ∧ x < 256 := fun i hi => by
    obtain ⟨h1, h2, ⟨q, h3⟩, h4⟩ := hC i hi
    obtain ⟨y, e1, _, e3⟩ := DataW.trod_int Tryd.underlying5 h3
    have h6 : 0 ≤ y ∧ y ≤ 255 := by simpa [Lit.wf, IntKind.min, IntKind.max, IntKind.signed, IntKind.bits] using e3
    exact ⟨y.toNat, by rw [e1, Int.toNat_of_nonneg h6.1], by omega⟩
  obtain ⟨Y, hY⟩ := choose_lt hs
  exact ⟨l, b, o, len, cap, Y, rfl, hm, hl, fun j hj => (hC j hj).2.1 0 _ (by rw [(hY j hj).1]; rfl), fun j hj => (hY j hj).2⟩
end

end Go.Proofs.YtenafinbaanicaaDoor
