/- What was written, one behind the other, is read as itself, and at its end, whatever numbers, texts and bytes behind them: CodeBack is true where the arguments have together at most 1048576 values and letters. -/
import Derived.Test.YtoiodkhmkkhjcaaQ8
import Derived.ProofKit
import Derived.OpenShut
import Derived.ShutString
import Derived.SizedLaws
import Derived.JoinedCond
import Derived.Deep.SlicePairs
import Derived.Carry
namespace Go.Proofs.Ytoiodkhmkkhjcaa
open Go.ChangeShapes Go.WideShapes Go.ChangeAt Go.RowKit Go.Deep
open Go.ChangeMaps (open_string shut_string)

section
variable {H : Type} {enc : TypeId × Value → H}

/-- A slice of cells, opened. -/
theorem open_cells {T e : TypeId} {W : World} {b0 : Nat} {v : Value} {d : DataW H} {p : List MemPlace} (ht : Try.prog.underlying T = some (.slice e)) (hc1 : Try.prog.cellsOf e = 1) (hval : Value.okWide Try.prog W .any b0 T v) (h : DataW.Trod enc Try.prog W 0 (fun _ => true) true T v d p) :
    ∃ (l : Option Addr) (b o len cap : Nat) (V : Nat → Value), v = .slice l len cap ∧ len ≤ 9223372036854775807 ∧ (0 < len → l = some ⟨b, o, none⟩) ∧ (∀ j, j < len → W.cell? ⟨b, o + j * 1, none⟩ = some (V j) ∧ ∃ n y, DataW.trod enc Try.prog W 0 (fun _ => true) true n e [V j] = some y) := by
  obtain ⟨l, len, cap, rfl⟩ := okWide_slice ht hval
  obtain ⟨n, h⟩ := h
  rcases open_slice1 ht hc1 h with ⟨hc, hx⟩ | ⟨a, len', cap', m, k, V, D, Pl, hc, _, hl, hm, hmm, hx, hall⟩
  · simp [Value.cells] at hc
    obtain ⟨rfl, rfl, rfl⟩ := hc
    exact ⟨none, 0, 0, 0, 0, fun _ => .bool true, rfl, by omega, fun h => by omega, fun j h => by omega⟩
  · simp [Value.cells] at hc
    obtain ⟨rfl, rfl, rfl⟩ := hc
    simp only [if_true] at hmm
    subst hmm
    obtain ⟨b, o, spot⟩ := a
    have hspot : 0 < len → spot = none := fun h0 => by simpa [Addr.add] using World.cell?_spot (hall 0 (by omega)).1
    have hml : maxLen = 9223372036854775807 := rfl
    refine ⟨_, b, o, len, m, V, rfl, by omega, fun h0 => by rw [hspot h0], fun j hj => ⟨?_, k, _, (hall j (by omega)).2⟩⟩
    have := (hall j (by omega)).1
    rw [hspot (by omega), add_plain] at this
    rw [Nat.mul_one]
    exact this
theorem open_words {W : World} {b0 : Nat} {v : Value} {d : DataW H} {p : List MemPlace} (hval : Value.okWide Try.prog W .any b0 52 v) (h : DataW.Trod enc Try.prog W 0 (fun _ => true) true 52 v d p) :
    ∃ (l : Option Addr) (b o len cap : Nat) (X : Nat → Int), v = .slice l len cap ∧ (0 < len → l = some ⟨b, o, none⟩) ∧ (∀ j, j < len → W.cell? ⟨b, o + j * 1, none⟩ = some (.int .u64 (X j))) ∧ ∀ j, j < len → 0 ≤ X j ∧ X j < 18446744073709551616 := by
  obtain ⟨l, b, o, len, cap, V, rfl, _, hl, hV⟩ := open_cells Try.underlying52 (by kernel_rfl) hval h
  have hint : ∀ i, i < len → ∃ N, V i = .int .u64 N ∧ 0 ≤ N ∧ N < 18446744073709551616 := fun i hi => by
    obtain ⟨n, y, hy⟩ := (hV i hi).2
    obtain ⟨N, h1, _, h3⟩ := DataW.trod_int Try.underlying22 hy
    simp only [List.cons.injEq, and_true] at h1
    have h4 : 0 ≤ N ∧ N ≤ 18446744073709551615 := by simpa [Lit.wf, IntKind.min, IntKind.max, IntKind.signed, IntKind.bits] using h3
    exact ⟨N, h1, by omega, by omega⟩
  obtain ⟨X, hX⟩ := choose_lt hint
  exact ⟨l, b, o, len, cap, X, rfl, hl, fun j hj => by rw [(hV j hj).1, (hX j hj).1], fun j hj => (hX j hj).2⟩
theorem open_texts {W : World} {b0 : Nat} {v : Value} {d : DataW H} {p : List MemPlace} (hval : Value.okWide Try.prog W .any b0 53 v) (h : DataW.Trod enc Try.prog W 0 (fun _ => true) true 53 v d p) :
    ∃ (l : Option Addr) (b o len cap : Nat) (Y : Nat → ByteArray), v = .slice l len cap ∧ len ≤ 9223372036854775807 ∧ (0 < len → l = some ⟨b, o, none⟩) ∧ (∀ j, j < len → W.cell? ⟨b, o + j * 1, none⟩ = some (.string (Y j))) := by
  obtain ⟨l, b, o, len, cap, V, rfl, hm, hl, hV⟩ := open_cells Try.underlying53 (by kernel_rfl) hval h
  have hstr : ∀ i, i < len → ∃ s, V i = .string s := fun i hi => by
    obtain ⟨n, y, hy⟩ := (hV i hi).2
    obtain ⟨s, h1, _, _⟩ := DataW.trod_string Try.underlying9 hy
    simp only [List.cons.injEq, and_true] at h1
    exact ⟨s, h1⟩
  obtain ⟨Y, hY⟩ := choose_lt hstr
  exact ⟨l, b, o, len, cap, Y, rfl, hm, hl, fun j hj => by rw [(hV j hj).1, hY j hj]⟩
end

theorem backOwn : ownKnob Try.prog.godebug = none := by kernel_rfl
theorem backLaid : laidOutB Try.prog = true := by kernel_rfl

/-- What the walk gives, for every argument whose last text is not too long for any machine. -/
theorem backContract (H : Type) (enc : TypeId × Value → H) (W : World) (base : Nat) (args : Array Value) (ds gs : List (DataW H)) (before : List MemPlace)
    (hval0 : ∀ (j : Nat) t v, Try.f5.params[j]? = some t → args[j]? = some v → Value.okWide Try.prog W .any base t v)
    (hW : DataW.Whole enc Try.prog Try.f5.params.toList Rows.codeBackSpec.vars false W args.toList ds gs before)
    (hz : ∀ a : ByteArray, ds[2]? = some (.lit (.string a.data.toList)) → a.size ≤ 140737488351232) :
    Calls Try.prog 5 args W fun e W' => ∃ v, e = .returned v ∧ Rows.codeBackSpec.post enc Try.prog Try.f5 false true false false W args v W' := by
  have hval : ∀ (j : Nat) t v, Try.f5.params[j]? = some t → args[j]? = some v → Value.okWide Try.prog W .any base t v := hval0
  have hW' := hW
  obtain ⟨p, q, hA0, hV, rfl, hfz, hnd⟩ := hW
  have hA : DataW.TrodAll enc Try.prog W 0 (fun _ => true) true Try.f5.params.toList args.toList ds p := hA0
  rw [Try.params5] at hA hval
  obtain ⟨v0, vs0, d0, ds0, p0, q0, hargs, rfl, rfl, h0, r0⟩ := trodAll_cons hA
  obtain ⟨v1, vs1, d1, ds1, p1, q1, rfl, rfl, rfl, h1, r1⟩ := trodAll_cons r0
  obtain ⟨v2, vs2, d2, ds2, p2, q2, rfl, rfl, rfl, h2, r2⟩ := trodAll_cons r1
  obtain ⟨rfl, rfl, rfl⟩ := trodAll_nil r2
  obtain rfl : args = #[v0, v1, v2] := by cases args; simp_all
  obtain ⟨rfl, rfl⟩ := trodVars_none hV
  have hlt0 : ∀ x ∈ p0, x.block < W.heap.size := fun x hx => by simpa using hW'.lt x (by simp [hx])
  have hlt1 : ∀ x ∈ p1, x.block < W.heap.size := fun x hx => by simpa using hW'.lt x (by simp [hx])
  have hlt2 : ∀ x ∈ p2, x.block < W.heap.size := fun x hx => by simpa using hW'.lt x (by simp [hx])
  have t0 := h0
  have t1 := h1
  have t2 := h2
  obtain ⟨l0, b0, o0, n0, k0, X, rfl, hl0, hX, hX0⟩ := open_words (hval 0 52 v0 rfl rfl) h0
  obtain ⟨l1, b1, o1, n1, k1, Y, rfl, hm1, hl1, hY⟩ := open_texts (hval 1 53 v1 rfl rfl) h1
  obtain ⟨a2, rfl, rfl, rfl, w2⟩ := open_string Try.underlying9 (hval 2 9 v2 rfl rfl) h2
  clear hA0 hval0
  refine (c_back l0 l1 b0 o0 n0 k0 b1 o1 n1 k1 X Y a2 hl0 hl1 hX0 (hz a2 rfl) hm1 W trivial hX hY).mono fun e W' ⟨he, hg⟩ => ?_
  subst he
  exact ⟨_, rfl, _, _, _, _, _, [], hW', trodAll_cons_mk (shut_bool Try.underlying4 _) trodAll_mk0, trodAll_cons_mk (Below.trod backLaid (by kernel_rfl) (of_decide_eq_true (by kernel_rfl)) t0 hg hlt0) (trodAll_cons_mk (Below.trod backLaid (by kernel_rfl) (of_decide_eq_true (by kernel_rfl)) t1 hg hlt1) (trodAll_cons_mk (Below.trod backLaid (by kernel_rfl) (of_decide_eq_true (by kernel_rfl)) t2 hg hlt2) trodAll_mk0)), rfl, hg.frame _, fun h => by cases h⟩

set_option maxRecDepth 100000 in
theorem backBound {H : Type} {ds : List (DataW H)} (hk : Rows.uptoSmall H ds = true) (a : ByteArray) (h : ds[2]? = some (.lit (.string a.data.toList))) : a.size ≤ 140737488351232 := by
  have hk2 := of_decide_eq_true hk
  have hle : ∀ (l : List (DataW H)) (i : Nat), l[i]? = some (.lit (.string a.data.toList)) → a.size + 1 ≤ Rows.uptoBulkAll l := by
    intro l
    induction l with
    | nil => intro i hi; simp at hi
    | cons x r ih =>
      intro i hi
      simp only [Rows.uptoBulkAll]
      cases i with
      | zero =>
        simp only [List.getElem?_cons_zero, Option.some.injEq] at hi
        subst hi
        simp only [Rows.uptoBulk]
        have e : a.data.toList.length = a.size := rfl
        omega
      | succ i =>
        have := ih i (by simpa using hi)
        omega
  have := hle ds 2 h
  omega

set_option maxRecDepth 100000 in
theorem backLifted (os : Os) (started : os.Started) (H : Type) (enc : TypeId × Value → H) (F : Stop.Interp) :
    ReturnsInHanded {} Try.checked os 5 .any ((Rows.OpenSpec.upto Rows.codeBackSpec).pre6 enc Try.prog Try.f5 Rows.codeBackUptoRow.domain false) (((Rows.OpenSpec.upto Rows.codeBackSpec).at F).post enc Try.prog Try.f5 false true false false) := by
  refine returnsInHanded_of_cond (C := Try.checked) (s := Rows.OpenSpec.upto Rows.codeBackSpec) (k := Rows.uptoSmall) rfl backOwn started (by kernel_rfl) Try.func5
    (OpenSpec.witness (enc := enc) (C := Try.checked) (s := Rows.OpenSpec.upto Rows.codeBackSpec) (k := Rows.uptoSmall) rfl false ⟨#[], #[.slice none 0 0, .slice none 0 0, .string ByteArray.empty], []⟩ 8 (by kernel_rfl) (by kernel_rfl) (by kernel_rfl)
      (x := ([.nil, .nil, .lit (.string [])], [], [])) (by kernel_rfl) rfl (by kernel_rfl)) ?_
  intro W base args ds gs before hval hW _ hk _
  have hg : gs = [] := by
    obtain ⟨p, q, hA0, hV, rfl, hfz, hnd⟩ := hW
    exact (trodVars_none hV).1
  subst hg
  rw [List.append_nil] at hk
  exact backContract H enc W base args ds [] before hval hW (backBound hk)

theorem codeBackUpto_holds : Rows.CodeBackUptoSaid :=
  OpenClaim.holds_of_cond 5 Try.f5 rfl rfl rfl rfl rfl rfl rfl ⟨rfl, rfl, rfl, rfl, rfl⟩ rfl rfl rfl rfl rfl (by kernel_rfl) Try.func5 (by kernel_rfl)
    (of_decide_eq_true (by kernel_rfl)) (by unfold Func.isWrapper; rw [if_neg (by decide +kernel)]; exact ⟨rfl, rfl⟩)
    (fun os started H enc _ F => backLifted os started H enc F)

#print axioms codeBackUpto_holds
end Go.Proofs.Ytoiodkhmkkhjcaa
