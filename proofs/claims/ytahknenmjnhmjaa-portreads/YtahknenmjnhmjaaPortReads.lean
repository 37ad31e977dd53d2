/- Whatever packet is read, both sides tell the same head, the same error and the same sum, and every flow is turned about as the document tells: PortReads is true; no condition. -/
import Derived.Test.YtahknenmjnhmjaaP5r
import Derived.Test.YtahknenmjnhmjaaLay
import Derived.Test.YtahknenmjnhmjaaRows
import Derived.ProofKit
import Derived.OpenShut
import Derived.ShutString
import Derived.SizedLaws
import Derived.Carry
namespace Go.Proofs.Ytahknenmjnhmjaa
open Go.ChangeShapes Go.WideShapes Go.ChangeAt Go.RowKit

set_option maxRecDepth 100000 in
theorem portReadsLifted (os : Os) (started : os.Started) (H : Type) (enc : TypeId × Value → H) :
    ReturnsInHanded {} Try.checked os 3 .any (Rows.portReadsSpec.pre6 enc Try.prog Try.f3 Rows.portReadsRow.domain false) (Rows.portReadsSpec.post enc Try.prog Try.f3 false true false false) := by
  refine returnsInHanded_of_change_sized (C := Try.checked) ownNone started (by kernel_rfl) Try.func3
    (ChangeSpec.witness6 (enc := enc) (C := Try.checked) false ⟨#[], #[.agg #[.bool false, .int .u64 0, .int .u64 0, .bool false, .int .u64 0, .int .u64 0, .int .u8 0, .int .u8 0, .string ByteArray.empty], .agg #[.int .u8 0, .bool false, .int .u64 0, .int .u64 0, .bool false, .int .u64 0, .int .u64 0, .int .u16 0, .int .u16 0]], []⟩ 8 (by kernel_rfl) (by kernel_rfl) (by kernel_rfl) (by kernel_rfl)) ?_
  intro W base args ds gs before hval0 hW hcnd hWt _
  have hval : ∀ (j : Nat) t v, Try.f3.params[j]? = some t → args[j]? = some v → Value.okWide Try.prog W .any base t v := hval0
  have hW' := hW
  obtain ⟨p, q, hA0, hV, rfl, hfz, hnd⟩ := hW
  have hA : DataW.TrodAll enc Try.prog W 0 (fun _ => true) true Try.f3.params.toList args.toList ds p := hA0
  rw [Try.params3] at hA hval
  obtain ⟨v0, vs0, d0, ds0, p0, q0, hargs, rfl, rfl, h0, r0⟩ := trodAll_cons hA
  obtain ⟨v1, vs1, d1, ds1, p1, q1, rfl, rfl, rfl, h1, r1⟩ := trodAll_cons r0
  obtain ⟨rfl, rfl, rfl⟩ := trodAll_nil r1
  obtain rfl : args = #[v0, v1] := by cases args; simp_all
  obtain ⟨rfl, rfl⟩ := trodVars_none hV
  have hlt0 : ∀ x ∈ p0, x.block < W.heap.size := fun x hx => by simpa using hW'.lt x (by simp [hx])
  have hlt1 : ∀ x ∈ p1, x.block < W.heap.size := fun x hx => by simpa using hW'.lt x (by simp [hx])
  obtain ⟨b0_, h0_, l0_, c0_, g0_, k0_, p0_, t0_, s0_, rfl, ⟨rh00, rh01⟩, ⟨rl00, rl01⟩, ⟨rg00, rg01⟩, ⟨rk00, rk01⟩, ⟨rp00, rp01⟩, ⟨rt00, rt01⟩⟩ := op26 (hval 0 26 v0 rfl rfl)
  obtain ⟨p1_, b1_, h1_, l1_, c1_, g1_, k1_, f1_, e1_, rfl, ⟨rp10, rp11⟩, ⟨rh10, rh11⟩, ⟨rl10, rl11⟩, ⟨rg10, rg11⟩, ⟨rk10, rk11⟩, ⟨rf10, rf11⟩, ⟨re10, re11⟩⟩ := op29 (hval 1 29 v1 rfl rfl)
  clear hA0 hval0
  refine (c_reads b0_ h0_ l0_ c0_ g0_ k0_ p0_ t0_ s0_ p1_ b1_ h1_ l1_ c1_ g1_ k1_ f1_ e1_ ⟨rp00, rp01⟩ W trivial).mono fun e W' ⟨he, hg⟩ => ?_
  subst he
  exact ⟨_, rfl, _, _, _, _, _, [], hW', trodAll_cons_mk (shut_bool Try.underlying4 _) trodAll_mk0, trodAll_cons_mk (Below.trod laidOut (by kernel_rfl) (of_decide_eq_true (by kernel_rfl)) h0 hg hlt0) (trodAll_cons_mk (Below.trod laidOut (by kernel_rfl) (of_decide_eq_true (by kernel_rfl)) h1 hg hlt1) (trodAll_mk0)), rfl, hg.frame _, fun h => by cases h⟩

theorem portReads_holds : Rows.PortReadsSaid :=
  OpenClaim.holds_of_wide 3 Try.f3 rfl rfl rfl rfl rfl rfl rfl ⟨rfl, rfl, rfl, rfl, rfl⟩ rfl rfl rfl rfl rfl (by kernel_rfl) Try.func3 (by kernel_rfl)
    (of_decide_eq_true (by kernel_rfl)) (by unfold Func.isWrapper; rw [if_neg (by decide +kernel)]; exact ⟨rfl, rfl⟩)
    (fun os started H enc _ => portReadsLifted os started H enc)

#print axioms portReads_holds
end Go.Proofs.Ytahknenmjnhmjaa
