/- Remarks, blanks and lines without words change nothing, whatever text and remarks are handed in: PolicyRemarks is true; no condition. -/
import Derived.Test.YtbdgncndhnnjoaaGreatDoorRk6
import Derived.Test.YtbdgncndhnnjoaaGreatDoorCards
import Derived.Test.YtbdgncndhnnjoaaGreatDoorTie
import Derived.ProofKit
import Derived.OpenShut
import Derived.ShutString
import Derived.SevenTiedAt
import Derived.Carry
import Derived.HandedShaped
namespace Go.Proofs.YtbdgncndhnnjoaaGreatDoor
open Go.ChangeShapes Go.WideShapes Go.ChangeAt Go.RowKit
set_option maxHeartbeats 1000000
set_option maxRecDepth 100000 in
theorem policyRemarksPLifted (os : Os) (started : os.Started) (H : Type) (enc : TypeId × Value → H) :
    ReturnsInHanded {} Tryz.checked os 6 .any (fun w args => (Rows.policyRemarksSpec.pre enc Tryz.prog Tryz.f6 Rows.policyRemarksRow.domain false w args ∧ laidMetH Tryz.prog lay9 w) ∧ sizedMet enc Tryz.prog Tryz.f6 (OpenSpec.ofChange Rows.policyRemarksSpec) false w args)
      (Rows.policyRemarksSpec.post enc Tryz.prog Tryz.f6 false true false false) := by
  refine handed_laid (enc := enc) ownNone started (by kernel_rfl) Tryz.func6
    (ChangeSpec.witness_shaped (enc := enc) (C := Tryz.checked) (os := os) (X := fun w _ => laidMetH Tryz.prog lay9 w) false (World.laidAll Tryz.prog os lay9) #[.string ByteArray.empty, .slice none 0 0] 8 (World.laidAll_os _ _ _)
      (World.shaped_of_ZipB (by kernel_rfl) (by kernel_rfl)) (by kernel_rfl) (by kernel_rfl) (by kernel_rfl) (lay_witness os _)) ?_
  intro W base args ds gs before hval0 hW hL
  have hval : ∀ (j : Nat) t v, Tryz.f6.params[j]? = some t → args[j]? = some v → Value.okWide Tryz.prog W .any base t v := hval0
  have hW' := hW
  obtain ⟨p, q, hA0, hV, rfl, hfz, hnd⟩ := hW
  have hA : DataW.TrodAll enc Tryz.prog W 0 (fun _ => true) true Tryz.f6.params.toList args.toList ds p := hA0
  rw [Tryz.params6] at hA hval
  obtain ⟨v0, vs0, d0, ds0, p0, q0, hargs, rfl, rfl, h0, r0⟩ := trodAll_cons hA
  obtain ⟨v1, vs1, d1, ds1, p1, q1, rfl, rfl, rfl, h1, r1⟩ := trodAll_cons r0
  obtain ⟨rfl, rfl, rfl⟩ := trodAll_nil r1
  obtain rfl : args = #[v0, v1] := by cases args; simp_all
  obtain ⟨rfl, rfl⟩ := trodVars_none hV
  have hlt0 : ∀ x ∈ p0, x.block < W.heap.size := fun x hx => by simpa using hW'.lt x (by simp [hx])
  have hlt1 : ∀ x ∈ p1, x.block < W.heap.size := fun x hx => by simpa using hW'.lt x (by simp [hx])
  obtain ⟨a0, rfl⟩ := op9 (hval 0 9 v0 rfl rfl)
  obtain ⟨x1, y1, z1, rfl⟩ := okWide_slice Tryz.underlying41 (hval 1 41 v1 rfl rfl)
  have t1 := h1
  obtain ⟨m1, t1⟩ := t1
  have t1 : DataW.trod enc Tryz.prog W 0 (fun _ => true) true m1 41 [.slice x1 y1 z1] = some (d1, p1) := t1
  obtain ⟨b1, n1, c1, g1, o1, rs1, e1, hb1, hc1⟩ := row_u8 t1
  cases e1
  clear hA0 hval0
  refine ((c_rmk (C := fun w => ∀ i, i < y1 → w.cell? ⟨g1, o1 + i, none⟩ = some (.int .u8 (rs1 i))) (fun _ => works _) a0 y1 rs1 x1 z1 g1 o1 hb1 (fun _ hw => hw) (fun i hi => (hc1 i hi).2)).calls (args := [.string a0, .slice x1 y1 z1]) hL (fun w' hg i hi => (hg.below.cell (cell_lt (hc1 i hi).1)).trans (hc1 i hi).1)).mono fun e W' ⟨he, hg⟩ => ?_
  subst he
  exact ⟨_, rfl, _, _, _, _, _, [], hW', trodAll_cons_mk (shut_bool Tryz.underlying4 _) trodAll_mk0, trodAll_cons_mk (Below.trod laidOut (by kernel_rfl) (of_decide_eq_true (by kernel_rfl)) h0 hg.below hlt0) (trodAll_cons_mk (Below.trod laidOut (by kernel_rfl) (of_decide_eq_true (by kernel_rfl)) h1 hg.below hlt1) (trodAll_mk0)), rfl, hg.below.frame _, fun h => by cases h⟩

theorem policyRemarks_row : Rows.PolicyRemarksSaid :=
  OpenClaim.holds_of_wide 6 Tryz.f6 rfl rfl rfl rfl rfl rfl rfl ⟨rfl, rfl, rfl, rfl, rfl⟩ rfl rfl rfl rfl rfl (by kernel_rfl) Tryz.func6 (by kernel_rfl)
    (of_decide_eq_true (by kernel_rfl)) (by unfold Func.isWrapper; rw [if_neg (by decide +kernel)]; exact ⟨rfl, rfl⟩)
    (fun os started H enc _ => policyRemarksPLifted os started H enc)

theorem policyRemarks_holds : Rows.PolicyRemarksCardSaid :=
  Claim7.holds_tied_plain_at .later [] [.data, .data, .data, .data, .sentinel, .sentinel, .data, .data, .pinned] true (true, "d60d6973e07f92eccb6f7e1d78cf4b0eec17ef5c75f6be9eb12a17b0deae0288") true
    policyRemarks_row (fun _ h => by cases h) (by kernel_rfl) (fun _ h => by cases h) policyRemarks_row_tie rfl ⟨rfl, rfl⟩ (by kernel_rfl) rfl
    (fun f fn hf hfn => by
      obtain rfl : f = 6 := Option.some.inj ((show Tryz.prog.funcNamed "isthmus/isthmuslaw19.PolicyRemarks" = some 6 by kernel_rfl).symm.trans hf) |>.symm
      obtain rfl : fn = Tryz.f6 := (Option.some.inj (Tryz.func6.symm.trans hfn)).symm
      exact ⟨by kernel_rfl, fun j t ht => by
        rw [Tryz.params6] at ht
        rcases j with _ | j
        · obtain rfl : t = 9 := by simpa using ht.symm
          exact (show Tryz.prog.wantsStandIn 9 = false by kernel_rfl)
        · rcases j with _ | j
          · obtain rfl : t = 41 := by simpa using ht.symm
            exact (show Tryz.prog.wantsStandIn 41 = false by kernel_rfl)
          · simp at ht⟩)
    (by kernel_rfl)

#print axioms policyRemarks_holds
end Go.Proofs.YtbdgncndhnnjoaaGreatDoor
