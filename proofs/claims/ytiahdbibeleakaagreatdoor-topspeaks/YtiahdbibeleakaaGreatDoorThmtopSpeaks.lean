/- Of two who shook hands each hears what the other one said, as it was said, each once at most, whatever comes late, again, or turned: TopSpeaks is true; the package variables start as the text lays them (the card ties them). -/
import Derived.Test.YtiahdbibeleakaaGreatDoorCt7
import Derived.Test.YtiahdbibeleakaaGreatDoorCards
import Derived.Test.YtiahdbibeleakaaGreatDoorTie
import Derived.SevenTiedAt
namespace Go.Proofs.YtiahdbibeleakaaGreatDoor
open Go.ChangeShapes Go.WideShapes Go.ChangeAt Go.RowKit
open Go.ChangeMaps (open_string shut_string)

set_option maxRecDepth 100000 in
theorem topSpeaksPLifted (os : Os) (started : os.Started) (H : Type) (enc : TypeId × Value → H) :
    ReturnsInHanded {} Tryz.checked os 3 .any (fun w args => (Rows.topSpeaksSpec.pre enc Tryz.prog Tryz.f3 Rows.topSpeaksRow.domain false w args ∧ laidMetH Tryz.prog lay6 w) ∧ sizedMet enc Tryz.prog Tryz.f3 (OpenSpec.ofChange Rows.topSpeaksSpec) false w args)
      (Rows.topSpeaksSpec.post enc Tryz.prog Tryz.f3 false true false false) := by
  refine returnsInHanded_of_change_and (C := Tryz.checked) (X := fun w _ => laidMetH Tryz.prog lay6 w) (fun _ _ _ hh h => h.of_heap hh) ownNone started (by kernel_rfl) Tryz.func3
    (ChangeSpec.witness_at (enc := enc) (C := Tryz.checked) (os := os) (X := fun w _ => laidMetH Tryz.prog lay6 w) false (World.laidAll Tryz.prog os lay6) #[.agg #[.string ByteArray.empty, .string ByteArray.empty, .string ByteArray.empty, .string ByteArray.empty], .slice none 0 0] 8 (World.laidAll_os _ _ _) (by kernel_rfl) (by kernel_rfl) (by kernel_rfl) (by kernel_rfl) (by kernel_rfl) (lay_witness os _)) ?_
  intro W base args ds gs before hval0 hW _ hWt hLd _
  have hL := laid_of hLd
  have hval : ∀ (j : Nat) t v, Tryz.f3.params[j]? = some t → args[j]? = some v → Value.okWide Tryz.prog W .any base t v := hval0
  have hW' := hW
  obtain ⟨p, q, hA0, hV, rfl, hfz, hnd⟩ := hW
  have hA : DataW.TrodAll enc Tryz.prog W 0 (fun _ => true) true Tryz.f3.params.toList args.toList ds p := hA0
  rw [Tryz.params3] at hA hval hWt
  obtain ⟨v0, vs0, d0, ds0, p0, q0, hargs, rfl, rfl, h0, r0⟩ := trodAll_cons hA
  obtain ⟨v1, vs1, d1, ds1, p1, q1, rfl, rfl, rfl, h1, r1⟩ := trodAll_cons r0
  obtain ⟨rfl, rfl, rfl⟩ := trodAll_nil r1
  obtain rfl : args = #[v0, v1] := by cases args; simp_all
  obtain ⟨rfl, rfl⟩ := trodVars_none hV
  have hlt0 : ∀ x ∈ p0, x.block < W.heap.size := fun x hx => by simpa using hW'.lt x (by simp [hx])
  have hlt1 : ∀ x ∈ p1, x.block < W.heap.size := fun x hx => by simpa using hW'.lt x (by simp [hx])
  have t0 := h0
  have t1 := h1
  obtain ⟨x0, y0⟩ := wt_cons _ _ _ _ _ hWt
  obtain ⟨x1, y1⟩ := wt_cons _ _ _ _ _ y0
  obtain ⟨ga0, gb0, gc0, gd0, rfl⟩ := op_shake (hval 0 23 v0 rfl rfl)
  obtain ⟨l1, b1, o1, n1, k1, Bf1, Cf1, Y1, Wh1, At1, Tn1, rfl, hm1, hl1, hB1, hW1, hA1, c0, c1, c2, c3, c4, c5⟩ := open_said (hval 1 24 v1 rfl rfl) h1 x1
  clear hA0 hval0
  refine (c_top l1 b1 o1 n1 k1 Bf1 Cf1 Y1 Wh1 At1 Tn1 hl1 hm1 hB1 hW1 hA1 W hL c0 c1 c2 c3 c4 c5).mono fun e W' ⟨he, hg⟩ => ?_
  subst he
  exact ⟨_, rfl, _, _, _, _, _, [], hW', trodAll_cons_mk (shut_bool Tryz.underlying4 _) trodAll_mk0, trodAll_cons_mk (Below.trod laidOut (by kernel_rfl) (of_decide_eq_true (by kernel_rfl)) t0 hg hlt0) (trodAll_cons_mk (Below.trod laidOut (by kernel_rfl) (of_decide_eq_true (by kernel_rfl)) t1 hg hlt1) (trodAll_mk0)), rfl, hg.frame _, fun h => by cases h⟩

theorem topSpeaks_row : Rows.TopSpeaksSaid :=
  OpenClaim.holds_of_wide 3 Tryz.f3 rfl rfl rfl rfl rfl rfl rfl ⟨rfl, rfl, rfl, rfl, rfl⟩ rfl rfl rfl rfl rfl (by kernel_rfl) Tryz.func3 (by kernel_rfl)
    (of_decide_eq_true (by kernel_rfl)) (by unfold Func.isWrapper; rw [if_neg (by decide +kernel)]; exact ⟨rfl, rfl⟩)
    (fun os started H enc _ => topSpeaksPLifted os started H enc)

theorem topSpeaks_holds : Rows.TopSpeaksCardSaid :=
  Claim7.holds_tied_plain_at .later [] [.data, .data] true (true, "ad228c7c7929f04d6cb86550a047f23cc5f0136a6e0c690788d839faeeaa6d72") false
    topSpeaks_row (fun _ h => by cases h) (by kernel_rfl) (fun _ h => by cases h) topSpeaks_row_tie rfl ⟨rfl, rfl⟩ (by kernel_rfl) rfl
    (fun f fn hf hfn => by
      obtain rfl : f = 3 := Option.some.inj ((show Tryz.prog.funcNamed "isthmus/isthmustop.TopSpeaks" = some 3 by kernel_rfl).symm.trans hf) |>.symm
      obtain rfl : fn = Tryz.f3 := (Option.some.inj (Tryz.func3.symm.trans hfn)).symm
      exact ⟨by kernel_rfl, fun j t ht => by
        rw [Tryz.params3] at ht
        rcases j with _ | _ | j
        · obtain rfl : t = 23 := by simpa using ht.symm
          exact (show Tryz.prog.wantsStandIn 23 = false by kernel_rfl)
        · obtain rfl : t = 24 := by simpa using ht.symm
          exact (show Tryz.prog.wantsStandIn 24 = false by kernel_rfl)
        · simp at ht⟩)
    (by kernel_rfl)

#print axioms topSpeaks_holds
end Go.Proofs.YtiahdbibeleakaaGreatDoor
