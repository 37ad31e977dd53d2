/- Whatever bytes are read by whatever calls, both sides hand out, leave and find wrong the same: CodeReads is true; no condition. -/
import Derived.Test.YtoiodkhmkkhjcaaQ6
import Derived.ProofKit
import Derived.OpenShut
import Derived.ShutString
import Derived.SizedLaws
import Derived.Deep.SlicePairs
import Derived.Carry
namespace Go.Proofs.Ytoiodkhmkkhjcaa
open Go.ChangeShapes Go.WideShapes Go.ChangeAt Go.RowKit Go.Deep
open Go.ChangeMaps (open_string shut_string)

section
variable {H : Type} {enc : TypeId × Value → H}

/-- The slice of steps, opened. -/
theorem open_steps {W : World} {b0 : Nat} {v : Value} {d : DataW H} {p : List MemPlace} (hval : Value.okWide Try.prog W .any b0 34 v) (h : DataW.Trod enc Try.prog W 0 (fun _ => true) true 34 v d p) (hlt : ∀ x ∈ p, x.block < W.heap.size) :
    ∃ (l : Option Addr) (b o len cap : Nat) (Ds Ns : Nat → Int), v = .slice l len cap ∧ (0 < len → l = some ⟨b, o, none⟩) ∧ (0 < len → b < W.heap.size) ∧
      (∀ j, j < len → W.cell? ⟨b, o + j * 2, none⟩ = some (.int .i64 (Ds j))) ∧ (∀ j, j < len → W.cell? ⟨b, o + j * 2 + 1, none⟩ = some (.int .i64 (Ns j))) := by
  obtain ⟨l, len, cap, rfl⟩ := okWide_slice Try.underlying34 hval
  obtain ⟨n, h⟩ := h
  rcases open_slice_pairs Try.underlying34 Try.underlying41 (by kernel_rfl) rfl rfl (by kernel_rfl) (by kernel_rfl) h with ⟨hc, hx⟩ | ⟨a, len', cap', m, k, V0, V1, D0, D1, P0, P1, hc, _, hl, hm, hmm, hx, hall⟩
  · simp [Value.cells] at hc
    obtain ⟨rfl, rfl, rfl⟩ := hc
    exact ⟨none, 0, 0, 0, 0, fun _ => 0, fun _ => 0, rfl, fun h => by omega, fun h => by omega, fun j h => by omega, fun j h => by omega⟩
  · simp [Value.cells] at hc
    obtain ⟨rfl, rfl, rfl⟩ := hc
    simp only [if_true] at hmm
    subst hmm
    simp only [Prod.mk.injEq] at hx
    have hint : ∀ i, i < m → ∃ N, V0 i = .int .i64 N := fun i hi => by
      obtain ⟨N, h1, _, _⟩ := DataW.trod_int Try.underlying3 (hall i hi).2.2.1
      simp only [List.cons.injEq, and_true] at h1
      exact ⟨N, h1⟩
    have hstr : ∀ i, i < m → ∃ N, V1 i = .int .i64 N := fun i hi => by
      obtain ⟨N, h1, _, _⟩ := DataW.trod_int Try.underlying3 (hall i hi).2.2.2
      simp only [List.cons.injEq, and_true] at h1
      exact ⟨N, h1⟩
    obtain ⟨Ds, hDs⟩ := choose_lt hint
    obtain ⟨Ss, hSs⟩ := choose_lt hstr
    obtain ⟨b, o, spot⟩ := a
    have hspot : 0 < len → spot = none := fun h0 => by simpa [Addr.add] using World.cell?_spot (hall 0 (by omega)).1
    have hp : 0 < len → (⟨b, o, spot⟩ : Addr).block < W.heap.size := fun h0 => by
      have hm0 : 0 < m := by omega
      refine hlt (MemPlace.cell b o) ?_
      rw [hx.2]
      refine List.mem_append_left _ ?_
      simp only [MemPlace.row, List.mem_map]
      exact ⟨0, by simp; omega, by simp⟩
    refine ⟨_, b, o, len, m, Ds, Ss, rfl, fun h0 => by rw [hspot h0], hp, fun j hj => ?_, fun j hj => ?_⟩
    · have := (hall j (by omega)).1
      rw [hDs j (by omega), hspot (by omega), add_plain] at this
      exact this
    · have := (hall j (by omega)).2.1
      rw [hSs j (by omega), hspot (by omega), add_plain, ← Nat.add_assoc] at this
      exact this
end

theorem readsPOwn : ownKnob Try.prog.godebug = none := by kernel_rfl
theorem readsPLaid : laidOutB Try.prog = true := by kernel_rfl

set_option maxRecDepth 100000 in
theorem readsPLifted (os : Os) (started : os.Started) (H : Type) (enc : TypeId × Value → H) :
    ReturnsInHanded {} Try.checked os 4 .any (Rows.codeReadsSpec.pre6 enc Try.prog Try.f4 Rows.codeReadsRow.domain false) (Rows.codeReadsSpec.post enc Try.prog Try.f4 false true false false) := by
  refine returnsInHanded_of_change_sized (C := Try.checked) readsPOwn started (by kernel_rfl) Try.func4
    (ChangeSpec.witness6 (enc := enc) (C := Try.checked) false ⟨#[], #[.string ByteArray.empty, .slice none 0 0], []⟩ 8 (by kernel_rfl) (by kernel_rfl) (by kernel_rfl) (by kernel_rfl)) ?_
  intro W base args ds gs before hval0 hW hcnd hWt _
  have hval : ∀ (j : Nat) t v, Try.f4.params[j]? = some t → args[j]? = some v → Value.okWide Try.prog W .any base t v := hval0
  have hW' := hW
  obtain ⟨p, q, hA0, hV, rfl, hfz, hnd⟩ := hW
  have hA : DataW.TrodAll enc Try.prog W 0 (fun _ => true) true Try.f4.params.toList args.toList ds p := hA0
  rw [Try.params4] at hA hval hWt
  obtain ⟨v0, vs0, d0, ds0, p0, q0, hargs, rfl, rfl, h0, r0⟩ := trodAll_cons hA
  obtain ⟨v1, vs1, d1, ds1, p1, q1, rfl, rfl, rfl, h1, r1⟩ := trodAll_cons r0
  obtain ⟨rfl, rfl, rfl⟩ := trodAll_nil r1
  obtain rfl : args = #[v0, v1] := by cases args; simp_all
  obtain ⟨rfl, rfl⟩ := trodVars_none hV
  have hlt0 : ∀ x ∈ p0, x.block < W.heap.size := fun x hx => by simpa using hW'.lt x (by simp [hx])
  have hlt1 : ∀ x ∈ p1, x.block < W.heap.size := fun x hx => by simpa using hW'.lt x (by simp [hx])
  have t0 := h0
  have t1 := h1
  obtain ⟨a0, rfl, rfl, rfl, w0⟩ := open_string Try.underlying9 (hval 0 9 v0 rfl rfl) h0
  obtain ⟨l1, b1, o1, n1, k1, D1, N1, rfl, hl1, _, hD1, hN1⟩ := open_steps (hval 1 34 v1 rfl rfl) h1 hlt1
  clear hA0 hval0
  refine (c_reads a0 l1 b1 o1 n1 k1 D1 N1 hl1 W trivial hD1 hN1).mono fun e W' ⟨he, hg⟩ => ?_
  subst he
  exact ⟨_, rfl, _, _, _, _, _, [], hW', trodAll_cons_mk (shut_bool Try.underlying4 _) trodAll_mk0, trodAll_cons_mk (Below.trod readsPLaid (by kernel_rfl) (of_decide_eq_true (by kernel_rfl)) t0 hg hlt0) (trodAll_cons_mk (Below.trod readsPLaid (by kernel_rfl) (of_decide_eq_true (by kernel_rfl)) t1 hg hlt1) trodAll_mk0), rfl, hg.frame _, fun h => by cases h⟩

theorem codeReads_holds : Rows.CodeReadsSaid :=
  OpenClaim.holds_of_wide 4 Try.f4 rfl rfl rfl rfl rfl rfl rfl ⟨rfl, rfl, rfl, rfl, rfl⟩ rfl rfl rfl rfl rfl (by kernel_rfl) Try.func4 (by kernel_rfl)
    (of_decide_eq_true (by kernel_rfl)) (by unfold Func.isWrapper; rw [if_neg (by decide +kernel)]; exact ⟨rfl, rfl⟩)
    (fun os started H enc _ => readsPLifted os started H enc)

#print axioms codeReads_holds
end Go.Proofs.Ytoiodkhmkkhjcaa
