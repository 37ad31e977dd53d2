/- Whatever size a window has, whatever numbers are asked for and marked, whenever a copy is gone on with: it answers as the document does: WindowPlays is true; no condition. -/
import Derived.Test.YtpcdnagonpnpmaaA9
import Derived.ProofKit
import Derived.OpenShut
import Derived.ShutString
import Derived.SizedLaws
import Derived.Deep.SlicePairs
import Derived.Carry
namespace Go.Proofs.Ytpcdnagonpnpmaa
open Go.ChangeShapes Go.WideShapes Go.ChangeAt Go.RowKit Go.Deep
open Go.ChangeMaps (open_string shut_string)

section
variable {H : Type} {enc : TypeId × Value → H}

/-- A slice of cells, opened. -/
theorem open_cells {T e : TypeId} {W : World} {b0 : Nat} {v : Value} {d : DataW H} {p : List MemPlace} (ht : Try.prog.underlying T = some (.slice e)) (hc1 : Try.prog.cellsOf e = 1) (hval : Value.okWide Try.prog W .any b0 T v) (h : DataW.Trod enc Try.prog W 0 (fun _ => true) true T v d p) :
    ∃ (l : Option Addr) (b o len cap : Nat) (V : Nat → Value), v = .slice l len cap ∧ len ≤ 9223372036854775807 ∧ (0 < len → l = some ⟨b, o, none⟩) ∧ (∀ j, j < len → W.cell? ⟨b, o + j * 1, none⟩ = some (V j) ∧ ∃ n y, DataW.trod enc Try.prog W 0 (fun _ => true) true n e [V j] = some y) := by
  obtain ⟨l, len, cap, rfl⟩ := okWide_slice ht hval
  obtain ⟨n, h⟩ := h
  rcases open_slice1 ht hc1 h with ⟨hc, hx⟩ | ⟨a, len', cap', m, k, V, D, Pl, hc, _, hl, hm, hmm, hx, hall⟩
  · simp [Value.cells] at hc
    obtain ⟨rfl, rfl, rfl⟩ := hc
    exact ⟨none, 0, 0, 0, 0, fun _ => .bool true, rfl, by omega, fun h => by omega, fun j h => by omega⟩
  · simp [Value.cells] at hc
    obtain ⟨rfl, rfl, rfl⟩ := hc
    simp only [if_true] at hmm
    subst hmm
    obtain ⟨b, o, spot⟩ := a
    have hspot : 0 < len → spot = none := fun h0 => by simpa [Addr.add] using World.cell?_spot (hall 0 (by omega)).1
    have hml : maxLen = 9223372036854775807 := rfl
    refine ⟨_, b, o, len, m, V, rfl, by omega, fun h0 => by rw [hspot h0], fun j hj => ⟨?_, k, _, (hall j (by omega)).2⟩⟩
    have := (hall j (by omega)).1
    rw [hspot (by omega), add_plain] at this
    rw [Nat.mul_one]
    exact this
theorem open_words {W : World} {b0 : Nat} {v : Value} {d : DataW H} {p : List MemPlace} (hval : Value.okWide Try.prog W .any b0 22 v) (h : DataW.Trod enc Try.prog W 0 (fun _ => true) true 22 v d p) :
    ∃ (l : Option Addr) (b o len cap : Nat) (X : Nat → Int), v = .slice l len cap ∧ (0 < len → l = some ⟨b, o, none⟩) ∧ (∀ j, j < len → W.cell? ⟨b, o + j * 1, none⟩ = some (.int .u64 (X j))) ∧ ∀ j, j < len → 0 ≤ X j ∧ X j < 18446744073709551616 := by
  obtain ⟨l, b, o, len, cap, V, rfl, _, hl, hV⟩ := open_cells Try.underlying22 (by kernel_rfl) hval h
  have hint : ∀ i, i < len → ∃ N, V i = .int .u64 N ∧ 0 ≤ N ∧ N < 18446744073709551616 := fun i hi => by
    obtain ⟨n, y, hy⟩ := (hV i hi).2
    obtain ⟨N, h1, _, h3⟩ := DataW.trod_int Try.underlying23 hy
    simp only [List.cons.injEq, and_true] at h1
    have h4 : 0 ≤ N ∧ N ≤ 18446744073709551615 := by simpa [Lit.wf, IntKind.min, IntKind.max, IntKind.signed, IntKind.bits] using h3
    exact ⟨N, h1, by omega, by omega⟩
  obtain ⟨X, hX⟩ := choose_lt hint
  exact ⟨l, b, o, len, cap, X, rfl, hl, fun j hj => by rw [(hV j hj).1, (hX j hj).1], fun j hj => (hX j hj).2⟩
end
theorem playsPOwn : ownKnob Try.prog.godebug = none := by kernel_rfl
theorem playsPLaid : laidOutB Try.prog = true := by kernel_rfl

set_option maxRecDepth 100000 in
theorem playsPLifted (os : Os) (started : os.Started) (H : Type) (enc : TypeId × Value → H) :
    ReturnsInHanded {} Try.checked os 3 .any (Rows.windowPlaysSpec.pre6 enc Try.prog Try.f3 Rows.windowPlaysRow.domain false) (Rows.windowPlaysSpec.post enc Try.prog Try.f3 false true false false) := by
  refine returnsInHanded_of_change_sized (C := Try.checked) playsPOwn started (by kernel_rfl) Try.func3
    (ChangeSpec.witness6 (enc := enc) (C := Try.checked) false ⟨#[], #[.int .i64 0, .slice none 0 0, .int .u64 0], []⟩ 8 (by kernel_rfl) (by kernel_rfl) (by kernel_rfl) (by kernel_rfl)) ?_
  intro W base args ds gs before hval0 hW hcnd hWt _
  have hval : ∀ (j : Nat) t v, Try.f3.params[j]? = some t → args[j]? = some v → Value.okWide Try.prog W .any base t v := hval0
  have hW' := hW
  obtain ⟨p, q, hA0, hV, rfl, hfz, hnd⟩ := hW
  have hA : DataW.TrodAll enc Try.prog W 0 (fun _ => true) true Try.f3.params.toList args.toList ds p := hA0
  rw [Try.params3] at hA hval hWt
  obtain ⟨v0, vs0, d0, ds0, p0, q0, hargs, rfl, rfl, h0, r0⟩ := trodAll_cons hA
  obtain ⟨v1, vs1, d1, ds1, p1, q1, rfl, rfl, rfl, h1, r1⟩ := trodAll_cons r0
  obtain ⟨v2, vs2, d2, ds2, p2, q2, rfl, rfl, rfl, h2, r2⟩ := trodAll_cons r1
  obtain ⟨rfl, rfl, rfl⟩ := trodAll_nil r2
  obtain rfl : args = #[v0, v1, v2] := by cases args; simp_all
  obtain ⟨rfl, rfl⟩ := trodVars_none hV
  have hlt0 : ∀ x ∈ p0, x.block < W.heap.size := fun x hx => by simpa using hW'.lt x (by simp [hx])
  have hlt1 : ∀ x ∈ p1, x.block < W.heap.size := fun x hx => by simpa using hW'.lt x (by simp [hx])
  have hlt2 : ∀ x ∈ p2, x.block < W.heap.size := fun x hx => by simpa using hW'.lt x (by simp [hx])
  have t0 := h0
  have t1 := h1
  have t2 := h2
  obtain ⟨a0, rfl, rfl, rfl, w0⟩ := open_int Try.underlying3 (hval 0 3 v0 rfl rfl) h0
  obtain ⟨l1, b1, o1, n1, k1, X1, rfl, hl1, hX1, hB1⟩ := open_words (hval 1 22 v1 rfl rfl) h1
  obtain ⟨a2, rfl, rfl, rfl, w2⟩ := open_int Try.underlying23 (hval 2 23 v2 rfl rfl) h2
  clear hA0 hval0
  refine (c_playsA a0 l1 b1 o1 n1 k1 X1 hl1 hB1 a2 w2 W trivial hX1).mono fun e W' ⟨he, hg⟩ => ?_
  subst he
  exact ⟨_, rfl, _, _, _, _, _, [], hW', trodAll_cons_mk (shut_bool Try.underlying4 _) trodAll_mk0, trodAll_cons_mk (Below.trod playsPLaid (by kernel_rfl) (of_decide_eq_true (by kernel_rfl)) t0 hg hlt0) (trodAll_cons_mk (Below.trod playsPLaid (by kernel_rfl) (of_decide_eq_true (by kernel_rfl)) t1 hg hlt1) (trodAll_cons_mk (Below.trod playsPLaid (by kernel_rfl) (of_decide_eq_true (by kernel_rfl)) t2 hg hlt2) trodAll_mk0)), rfl, hg.frame _, fun h => by cases h⟩

theorem windowPlays_holds : Rows.WindowPlaysSaid :=
  OpenClaim.holds_of_wide 3 Try.f3 rfl rfl rfl rfl rfl rfl rfl ⟨rfl, rfl, rfl, rfl, rfl⟩ rfl rfl rfl rfl rfl (by kernel_rfl) Try.func3 (by kernel_rfl)
    (of_decide_eq_true (by kernel_rfl)) (by unfold Func.isWrapper; rw [if_neg (by decide +kernel)]; exact ⟨rfl, rfl⟩)
    (fun os started H enc _ => playsPLifted os started H enc)

#print axioms windowPlays_holds
end Go.Proofs.Ytpcdnagonpnpmaa
