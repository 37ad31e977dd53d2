/- For every string and every slice of strings the law EdwRows returns true, and both arguments read afterwards as they read before; no condition. -/
import Derived.Test.YtkeocdebfgcnnaaCr7
import Derived.Test.YtkeocdebfgcnnaaChecked
import Derived.Test.YtkeocdebfgcnnaaRows
import Derived.ProofKit
import Derived.OpenShut
import Derived.ShutString
import Derived.SliceStrings
import Derived.Carry
namespace Go.Proofs.Ytkeocdebfgcnnaa
open Go.ChangeShapes Go.WideShapes Go.ChangeAt Go.RowKit
open Go.ChangeMaps (open_string shut_string)

theorem rowsOwn : ownKnob Try.prog.godebug = none := by kernel_rfl
theorem rowsLaid : laidOutB Try.prog = true := by kernel_rfl

theorem rowsWalk (s : ByteArray) (l : Option Addr) (b o len cap : Nat) (Ss : Nat → ByteArray) (w : World) (hll : 0 < len → l = some ⟨b, o, none⟩) (hb : 0 < len → b < w.heap.size)
    (hS : ∀ j, j < len → w.cell? ⟨b, o + j, none⟩ = some (.string (Ss j))) :
    Calls Try.prog 4 #[.string s, .slice l len cap] w fun e w' => e = .returned (.bool true) ∧ Below w.heap.size w w' := by
  by_cases hc : decC s = 0
  · by_cases hl : 40 < (len : Int)
    · exact rowsL_gen s l b o len cap Ss w ⟨trivial⟩ hc hl
    · exact rowsY_gen s l b o len cap Ss w ⟨trivial⟩ hc hl hll hb hS
  · exact rowsN_gen s l b o len cap Ss w ⟨trivial⟩ hc

section
variable {H : Type} {enc : TypeId × Value → H}

set_option maxRecDepth 100000 in
/-- The slice of strings, opened. -/
theorem open_texts {W : World} {b0 : Nat} {v : Value} {d : DataW H} {p : List MemPlace} (hval : Value.okWide Try.prog W .any b0 42 v) (h : DataW.Trod enc Try.prog W 0 (fun _ => true) true 42 v d p) (hlt : ∀ x ∈ p, x.block < W.heap.size) :
    ∃ (l : Option Addr) (b o len cap : Nat) (Ss : Nat → ByteArray), v = .slice l len cap ∧ (0 < len → l = some ⟨b, o, none⟩) ∧ (0 < len → b < W.heap.size) ∧
      (∀ j, j < len → W.cell? ⟨b, o + j, none⟩ = some (.string (Ss j))) := by
  obtain ⟨l, len, cap, rfl⟩ := okWide_slice Try.underlying42 hval
  obtain ⟨n, h⟩ := h
  rcases open_strings Try.underlying42 Try.underlying9 (by kernel_rfl) h with ⟨hc, hx⟩ | ⟨a, len', cap', ss, hc, _, hl, hm, hz, hx, hcell, hsz⟩
  · simp [Value.cells] at hc
    obtain ⟨rfl, rfl, rfl⟩ := hc
    exact ⟨none, 0, 0, 0, 0, fun _ => ByteArray.empty, rfl, fun h => by omega, fun h => by omega, fun j h => by omega⟩
  · simp [Value.cells] at hc
    obtain ⟨rfl, rfl, rfl⟩ := hc
    simp only [if_true] at hz
    simp only [Prod.mk.injEq] at hx
    obtain ⟨b, o, spot⟩ := a
    have hspot : 0 < len → spot = none := fun h0 => by simpa [Addr.add] using World.cell?_spot (hcell 0 (by omega))
    have hp : 0 < len → (⟨b, o, spot⟩ : Addr).block < W.heap.size := fun h0 => by
      refine hlt (MemPlace.cell b o) ?_
      rw [hx.2]
      simp only [MemPlace.row, List.mem_map]
      exact ⟨0, by simp; omega, by simp⟩
    refine ⟨_, b, o, len, cap, fun i => ss.getD i ByteArray.empty, rfl, fun h0 => by rw [hspot h0], hp, fun j hj => ?_⟩
    have h1 := hcell j (by omega)
    have h2 := hspot (by omega)
    subst h2
    have hadd : (⟨b, o, none⟩ : Addr).add j = ⟨b, o + j, none⟩ := by unfold Addr.add; split <;> simp_all
    rw [hadd] at h1
    exact h1
end

set_option maxRecDepth 100000 in
theorem rowsLifted (os : Os) (started : os.Started) (H : Type) (enc : TypeId × Value → H) :
    ReturnsInHanded {} Try.checked os 4 .any (Rows.edwRowsSpec.pre6 enc Try.prog Try.f4 Rows.edwRowsRow.domain false) (Rows.edwRowsSpec.post enc Try.prog Try.f4 false true false false) := by
  refine returnsInHanded_of_change (C := Try.checked) rowsOwn started (by kernel_rfl) Try.func4
    (ChangeSpec.witness6 (enc := enc) (C := Try.checked) false ⟨#[], #[.string ByteArray.empty, .slice none 0 0], []⟩ 8 (by kernel_rfl) (by kernel_rfl) (by kernel_rfl) (by kernel_rfl)) ?_
  intro W base args ds gs before hval0 hW hcnd _
  have hval : ∀ (j : Nat) t v, Try.f4.params[j]? = some t → args[j]? = some v → Value.okWide Try.prog W .any base t v := hval0
  have hW' := hW
  obtain ⟨p, q, hA0, hV, rfl, hfz, hnd⟩ := hW
  have hA : DataW.TrodAll enc Try.prog W 0 (fun _ => true) true Try.f4.params.toList args.toList ds p := hA0
  rw [Try.params4] at hA hval
  obtain ⟨v0, vs0, d0, ds0, p0, q0, hargs, rfl, rfl, h0, r0⟩ := trodAll_cons hA
  obtain ⟨v1, vs1, d1, ds1, p1, q1, rfl, rfl, rfl, h1, r1⟩ := trodAll_cons r0
  obtain ⟨rfl, rfl, rfl⟩ := trodAll_nil r1
  obtain rfl : args = #[v0, v1] := by cases args; simp_all
  obtain ⟨rfl, rfl⟩ := trodVars_none hV
  obtain ⟨a0, rfl, rfl, rfl, w0⟩ := open_string Try.underlying9 (hval 0 9 v0 rfl rfl) h0
  have hlt : ∀ x ∈ p1, x.block < W.heap.size := fun x hx => by simpa using hW'.lt x (by simp [hx])
  obtain ⟨l, b, o, len, cap, Ss, rfl, hll, hb, hS⟩ := open_texts (hval 1 42 v1 rfl rfl) h1 hlt
  clear hA0 hval0
  refine (rowsWalk a0 l b o len cap Ss W hll hb hS).mono fun e W' ⟨he, hg⟩ => ?_
  subst he
  exact ⟨_, rfl, _, _, _, _, _, [], hW', trodAll_cons_mk (shut_bool Try.underlying4 _) trodAll_mk0, trodAll_cons_mk (shut_string Try.underlying9 w0) (trodAll_cons_mk (Below.trod rowsLaid (by kernel_rfl) (of_decide_eq_true (by kernel_rfl)) h1 hg hlt) trodAll_mk0), rfl, hg.frame _, fun h => by cases h⟩

theorem edwRows_holds : Rows.EdwRowsSaid :=
  OpenClaim.holds_of_wide 4 Try.f4 rfl rfl rfl rfl rfl rfl rfl ⟨rfl, rfl, rfl, rfl, rfl⟩ rfl rfl rfl rfl rfl (by kernel_rfl) Try.func4 (by kernel_rfl)
    (of_decide_eq_true (by kernel_rfl)) (by unfold Func.isWrapper; rw [if_neg (by decide +kernel)]; exact ⟨rfl, rfl⟩)
    (fun os started H enc _ => rowsLifted os started H enc)

#print axioms edwRows_holds
end Go.Proofs.Ytkeocdebfgcnnaa
