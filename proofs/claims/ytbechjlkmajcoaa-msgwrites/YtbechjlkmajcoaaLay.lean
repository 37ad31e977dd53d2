/- What the arguments are, opened. -/
import Derived.Test.YtbechjlkmajcoaaW1
import Derived.ProofKit
import Derived.OpenShut
import Derived.ShutString
import Derived.SizedLaws
import Derived.Carry
namespace Go.Proofs.Ytbechjlkmajcoaa
open Go.ChangeShapes Go.WideShapes Go.ChangeAt Go.RowKit

set_option maxRecDepth 100000 in
theorem laidOut : laidOutB Try.prog = true := by kernel_rfl
set_option maxRecDepth 100000 in
theorem ownNone : ownKnob Try.prog.godebug = none := by kernel_rfl
section
variable {W : World} {b0 : Nat} {v : Value}
set_option maxRecDepth 100000 in
theorem cell_bool (h : Cell.okWide Try.prog W .any b0 4 v) : ∃ b, v = .bool b := by
  simp only [Cell.okWide, Try.underlying4] at h
  cases v <;> simp_all [Cell.ok, Try.underlying4]
set_option maxRecDepth 100000 in
theorem cell_u64 (h : Cell.okWide Try.prog W .any b0 23 v) : ∃ n, v = .int .u64 n ∧ 0 ≤ n ∧ n < 18446744073709551616 := by
  simp only [Cell.okWide, Try.underlying23] at h
  cases v <;> simp_all [Cell.ok, Try.underlying23]
  rename_i k n
  obtain ⟨rfl, h1, h2⟩ := h
  simp [IntKind.min, IntKind.max, IntKind.bits, IntKind.signed] at h1 h2
  exact ⟨h1, by omega⟩
set_option maxRecDepth 100000 in
theorem cell_u8 (h : Cell.okWide Try.prog W .any b0 5 v) : ∃ n, v = .int .u8 n ∧ 0 ≤ n ∧ n < 256 := by
  simp only [Cell.okWide, Try.underlying5] at h
  cases v <;> simp_all [Cell.ok, Try.underlying5]
  rename_i k n
  obtain ⟨rfl, h1, h2⟩ := h
  simp [IntKind.min, IntKind.max, IntKind.bits, IntKind.signed] at h1 h2
  exact ⟨h1, by omega⟩
set_option maxRecDepth 100000 in
theorem cell_str (h : Cell.okWide Try.prog W .any b0 9 v) : ∃ s, v = .string s := by
  simp only [Cell.okWide, Try.underlying9] at h
  cases v <;> simp_all [Cell.ok, Try.underlying9]
set_option maxRecDepth 100000 in
theorem op9 (h : Value.okWide Try.prog W .any b0 9 v) : ∃ s, v = .string s := by
  simp only [Value.okWide, Try.underlying9] at h
  exact cell_str h
set_option maxRecDepth 100000 in
theorem op5 (h : Value.okWide Try.prog W .any b0 5 v) : ∃ n, v = .int .u8 n ∧ 0 ≤ n ∧ n < 256 := by
  simp only [Value.okWide, Try.underlying5] at h
  exact cell_u8 h
set_option maxRecDepth 100000 in
theorem cell_u16 (h : Cell.okWide Try.prog W .any b0 26 v) : ∃ n, v = .int .u16 n ∧ 0 ≤ n ∧ n < 65536 := by
  simp only [Cell.okWide, Try.underlying26] at h
  cases v <;> simp_all [Cell.ok, Try.underlying26]
  rename_i k n
  obtain ⟨rfl, h1, h2⟩ := h
  simp [IntKind.min, IntKind.max, IntKind.bits, IntKind.signed] at h1 h2
  exact ⟨h1, by omega⟩
set_option maxRecDepth 100000 in
theorem cell_u32 (h : Cell.okWide Try.prog W .any b0 22 v) : ∃ n, v = .int .u32 n ∧ 0 ≤ n ∧ n < 4294967296 := by
  simp only [Cell.okWide, Try.underlying22] at h
  cases v <;> simp_all [Cell.ok, Try.underlying22]
  rename_i k n
  obtain ⟨rfl, h1, h2⟩ := h
  simp [IntKind.min, IntKind.max, IntKind.bits, IntKind.signed] at h1 h2
  exact ⟨h1, by omega⟩
set_option maxRecDepth 100000 in
theorem op26 (h : Value.okWide Try.prog W .any b0 26 v) : ∃ n, v = .int .u16 n ∧ 0 ≤ n ∧ n < 65536 := by
  simp only [Value.okWide, Try.underlying26] at h
  exact cell_u16 h
set_option maxRecDepth 100000 in
theorem row_av (cs : Array Value) (l : List Value) (hs : cs.size = l.length) (h : ∀ i, i < l.length → cs[i]? = l[i]?) : cs = av l.length (ls l) := by
  apply Array.ext_getElem?
  intro i
  by_cases hi : i < l.length
  · rw [h i hi, av_get _ _ _ hi]
    unfold ls
    rw [getD_app, List.getElem?_eq_getElem hi]
    rfl
  · rw [Array.getElem?_eq_none (by omega), Array.getElem?_eq_none (by rw [av_size]; omega)]
end
set_option maxRecDepth 100000 in
theorem row_cells {W : World} {b0 : Nat} {t : TypeId} {v : Value} {fs : Array Field} {ts : List TypeId} (ht : Try.prog.underlying t = some (.struct fs)) (hc : Try.prog.cellTypes Try.prog.depth t = some ts) (hn : Try.prog.cellsOf t = ts.length) (h : Value.okWide Try.prog W .any b0 t v) : ∃ cs, v = .agg cs ∧ cs.size = ts.length ∧ ∀ (i : Nat) (u : TypeId), ts[i]? = some u → ∃ x, cs[i]? = some x ∧ Cell.okWide Try.prog W .any b0 u x := by
  simp only [Value.okWide, ht] at h
  obtain ⟨cs, rfl, h2, ts2, h3, _, h4⟩ := h
  rw [hc] at h3
  cases h3
  refine ⟨cs, rfl, by omega, fun i u hu => ?_⟩
  have hi := (List.getElem?_eq_some_iff.1 hu).1
  obtain ⟨u2, hu2, hx⟩ := h4 i cs[i] (Array.getElem?_eq_getElem (by omega))
  rw [Nat.mod_eq_of_lt hi, hu] at hu2
  cases hu2
  exact ⟨cs[i], Array.getElem?_eq_getElem (by omega), hx⟩
set_option maxRecDepth 100000 in
theorem op30 {W : World} {b0 : Nat} {v : Value} (h : Value.okWide Try.prog W .any b0 30 v) : ∃ m : Mg, v = .agg (av 17 (mgL m)) ∧ okM m := by
  obtain ⟨cs, rfl, hs, hc⟩ := row_cells (ts := [5, 9, 9, 22, 22, 23, 23, 23, 9, 4, 23, 23, 26, 26, 9, 9, 9]) Try.underlying30 (by kernel_rfl) (by kernel_rfl) h
  obtain ⟨x0, e0, o0⟩ := hc 0 5 rfl
  obtain ⟨yty, rfl, rty⟩ := cell_u8 o0
  obtain ⟨x1, e1, o1⟩ := hc 1 9 rfl
  obtain ⟨yfr, rfl⟩ := cell_str o1
  obtain ⟨x2, e2, o2⟩ := hc 2 9 rfl
  obtain ⟨ytq, rfl⟩ := cell_str o2
  obtain ⟨x3, e3, o3⟩ := hc 3 22 rfl
  obtain ⟨yix, rfl, rix⟩ := cell_u32 o3
  obtain ⟨x4, e4, o4⟩ := hc 4 22 rfl
  obtain ⟨ype, rfl, rpe⟩ := cell_u32 o4
  obtain ⟨x5, e5, o5⟩ := hc 5 23 rfl
  obtain ⟨yct, rfl, rct⟩ := cell_u64 o5
  obtain ⟨x6, e6, o6⟩ := hc 6 23 rfl
  obtain ⟨yba, rfl, rba⟩ := cell_u64 o6
  obtain ⟨x7, e7, o7⟩ := hc 7 23 rfl
  obtain ⟨yve, rfl, rve⟩ := cell_u64 o7
  obtain ⟨x8, e8, o8⟩ := hc 8 9 rfl
  obtain ⟨ytx, rfl⟩ := cell_str o8
  obtain ⟨x9, e9, o9⟩ := hc 9 4 rfl
  obtain ⟨yev, rfl⟩ := cell_bool o9
  obtain ⟨x10, e10, o10⟩ := hc 10 23 rfl
  obtain ⟨yeh, rfl, reh⟩ := cell_u64 o10
  obtain ⟨x11, e11, o11⟩ := hc 11 23 rfl
  obtain ⟨yel, rfl, rel⟩ := cell_u64 o11
  obtain ⟨x12, e12, o12⟩ := hc 12 26 rfl
  obtain ⟨yep, rfl, rep⟩ := cell_u16 o12
  obtain ⟨x13, e13, o13⟩ := hc 13 26 rfl
  obtain ⟨yco, rfl, rco⟩ := cell_u16 o13
  obtain ⟨x14, e14, o14⟩ := hc 14 9 rfl
  obtain ⟨ytt, rfl⟩ := cell_str o14
  obtain ⟨x15, e15, o15⟩ := hc 15 9 rfl
  obtain ⟨yda, rfl⟩ := cell_str o15
  obtain ⟨x16, e16, o16⟩ := hc 16 9 rfl
  obtain ⟨ysg, rfl⟩ := cell_str o16
  refine ⟨⟨yty, yfr, ytq, yix, ype, yct, yba, yve, ytx, yev, yeh, yel, yep, yco, ytt, yda, ysg⟩, congrArg Value.agg (row_av cs [.int .u8 yty, .string yfr, .string ytq, .int .u32 yix, .int .u32 ype, .int .u64 yct, .int .u64 yba, .int .u64 yve, .string ytx, .bool yev, .int .u64 yeh, .int .u64 yel, .int .u16 yep, .int .u16 yco, .string ytt, .string yda, .string ysg] hs fun i hi => ?_), ⟨rty, rix, rpe, rct, rba, rve, reh, rel, rep, rco⟩⟩
  rcases i with _ | _ | _ | _ | _ | _ | _ | _ | _ | _ | _ | _ | _ | _ | _ | _ | _ | i
  · exact e0
  · exact e1
  · exact e2
  · exact e3
  · exact e4
  · exact e5
  · exact e6
  · exact e7
  · exact e8
  · exact e9
  · exact e10
  · exact e11
  · exact e12
  · exact e13
  · exact e14
  · exact e15
  · exact e16
  · exact absurd hi (by simp)
set_option maxRecDepth 100000 in
theorem wt_str {H : Type} (P : Program) (t : TypeId) (ts : List TypeId) (s : ByteArray) (r : List (DataW H)) (h : (DataW.weightsEach P (t :: ts) (.lit (.string s.data.toList) :: r)).all (· ≤ reachBytes) = true) : s.size ≤ 140737488351232 ∧ (DataW.weightsEach P ts r).all (· ≤ reachBytes) = true := by
  simp only [DataW.weightsEach, DataW.weights, List.all_append, Bool.and_eq_true, List.all_cons, List.all_nil, reachBytes, Bool.and_true] at h
  refine ⟨?_, h.2⟩
  have h1 := of_decide_eq_true h.1
  have e : s.data.toList.length = s.size := rfl
  omega
set_option maxRecDepth 100000 in
theorem wt_cons {H : Type} (P : Program) (t : TypeId) (ts : List TypeId) (d : DataW H) (r : List (DataW H)) (h : (DataW.weightsEach P (t :: ts) (d :: r)).all (· ≤ reachBytes) = true) : (d.weights P t).all (· ≤ reachBytes) = true ∧ (DataW.weightsEach P ts r).all (· ≤ reachBytes) = true := by
  simp only [DataW.weightsEach, List.all_append, Bool.and_eq_true] at h
  exact h
set_option maxRecDepth 100000 in
theorem wt_at {H : Type} (P : Program) : ∀ (ts : List TypeId) (ds : List (DataW H)) (i : Nat) (t : TypeId) (s : ByteArray), ts[i]? = some t → ds[i]? = some (.lit (.string s.data.toList)) → (DataW.weightsEach P ts ds).all (· ≤ reachBytes) = true → s.size ≤ 140737488351232
  | t :: ts, d :: ds, 0, t', s, _, hd, h => by
    simp only [List.getElem?_cons_zero, Option.some.injEq] at hd
    subst hd
    exact (wt_str P t ts s ds h).1
  | t :: ts, d :: ds, i + 1, t', s, ht, hd, h => by
    simp only [List.getElem?_cons_succ] at ht hd
    exact wt_at P ts ds i t' s ht hd (wt_cons P t ts d ds h).2
  | [], _, _, _, _, ht, _, _ => by simp at ht
  | _ :: _, [], _, _, _, _, hd, _ => by simp at hd
set_option maxRecDepth 100000 in
/-- The texts of a message that was handed in are not beyond all memory. -/
theorem wt_msg {H : Type} {enc : TypeId × Value → H} {W : World} {b0 : Nat} {sp : Nat → Bool} {hd : Bool} {m : Mg} {d : DataW H} {p : List MemPlace} {ts : List TypeId} {r : List (DataW H)} (h : DataW.Trod enc Try.prog W b0 sp hd 30 (.agg (av 17 (mgL m))) d p) (hw : (DataW.weightsEach Try.prog (30 :: ts) (d :: r)).all (· ≤ reachBytes) = true) : bgM m ∧ (DataW.weightsEach Try.prog ts r).all (· ≤ reachBytes) = true := by
  obtain ⟨h1, h2⟩ := wt_cons _ _ _ _ _ hw
  refine ⟨?_, h2⟩
  obtain ⟨fuel, h⟩ := h
  obtain ⟨xs, n, _, hx, _, hlen, hf⟩ := DataW.trod_struct Try.underlying30 h
  have h14 : xs.length = 14 := hlen
  have hx1 := congrArg Prod.fst hx
  simp only at hx1
  subst hx1
  have hws : (DataW.weightsEach Try.prog [5, 9, 9, 22, 22, 23, 23, 23, 9, 28, 26, 9, 9, 9] (xs.map (·.1))).all (· ≤ reachBytes) = true := by
    unfold DataW.weights at h1
    rw [Try.underlying30] at h1
    exact h1
  have key : ∀ (i : Nat) (s : ByteArray), ([5, 9, 9, 22, 22, 23, 23, 23, 9, 28, 26, 9, 9, 9] : List TypeId)[i]? = some 9 → DataW.trod enc Try.prog W b0 sp hd n 9 [.string s] = xs[i]? → s.size ≤ 140737488351232 := fun i s ht he => by
    cases hxi : xs[i]? with
    | none =>
      rw [hxi] at he
      have hl : i < xs.length := by
        have := (List.getElem?_eq_some_iff.1 ht).1
        simp at this
        omega
      rw [List.getElem?_eq_getElem hl] at hxi
      cases hxi
    | some y =>
      rw [hxi] at he
      obtain ⟨s', e1, e2, _⟩ := DataW.trod_string Try.underlying9 he
      simp only [List.cons.injEq, Value.string.injEq, and_true] at e1
      subst e1
      exact wt_at _ _ _ i 9 s ht (by rw [List.getElem?_map, hxi, e2]; rfl) hws
  exact ⟨key 1 _ rfl (hf 1 _ rfl), key 2 _ rfl (hf 2 _ rfl), key 8 _ rfl (hf 8 _ rfl), key 11 _ rfl (hf 11 _ rfl), key 12 _ rfl (hf 12 _ rfl), key 13 _ rfl (hf 13 _ rfl)⟩

end Go.Proofs.Ytbechjlkmajcoaa
