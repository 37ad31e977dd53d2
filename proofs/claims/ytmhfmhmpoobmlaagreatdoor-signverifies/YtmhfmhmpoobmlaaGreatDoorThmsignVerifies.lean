/- Just those signatures are verified that the document verifies: SignVerifies is true; the package variable starts as the text lays it (the card ties it). -/
import Derived.Test.YtmhfmhmpoobmlaaGreatDoorCx1
import Derived.Test.YtmhfmhmpoobmlaaGreatDoorCx2
import Derived.Test.YtmhfmhmpoobmlaaGreatDoorCx3
import Derived.Test.YtmhfmhmpoobmlaaGreatDoorCx4
import Derived.Test.YtmhfmhmpoobmlaaGreatDoorCx5
import Derived.Test.YtmhfmhmpoobmlaaGreatDoorCx6
import Derived.Test.YtmhfmhmpoobmlaaGreatDoorCy7
import Derived.Test.YtmhfmhmpoobmlaaGreatDoorCy8
import Derived.Test.YtmhfmhmpoobmlaaGreatDoorCy9
import Derived.Test.YtmhfmhmpoobmlaaGreatDoorCy10
import Derived.Test.YtmhfmhmpoobmlaaGreatDoorCards
import Derived.Test.YtmhfmhmpoobmlaaGreatDoorTie
import Derived.ProofKit
import Derived.OpenShut
import Derived.ShutString
import Derived.SevenTiedAt
import Derived.Carry
namespace Go.Proofs.YtmhfmhmpoobmlaaGreatDoor
open Go.ChangeShapes Go.WideShapes Go.ChangeAt Go.RowKit
open Go.ChangeMaps (open_string shut_string)

theorem signVerifiesTrod {H : Type} {enc : TypeId × Value → H} {P : Program} {w : World} {base : Nat} {spare : Nat → Bool} {held : Bool} {t0 t1 t2 : TypeId} {args : Array Value} {ds : List (DataW H)} {ps : List MemPlace} (h : DataW.TrodAll enc P w base spare held [t0, t1, t2] args.toList ds ps) :
    ∃ v0 v1 v2 d0 d1 d2 p0 p1 p2, args = #[v0, v1, v2] ∧ ds = [d0, d1, d2] ∧ ps = p0 ++ (p1 ++ (p2)) ∧ DataW.Trod enc P w base spare held t0 v0 d0 p0 ∧ DataW.Trod enc P w base spare held t1 v1 d1 p1 ∧ DataW.Trod enc P w base spare held t2 v2 d2 p2 := by
  obtain ⟨v0, r0, d0, e0, p0, q0, hargs, rfl, rfl, g0, s0⟩ := trodAll_cons h
  obtain ⟨v1, r1, d1, e1, p1, q1, rfl, rfl, rfl, g1, s1⟩ := trodAll_cons s0
  obtain ⟨v2, r2, d2, e2, p2, q2, rfl, rfl, rfl, g2, s2⟩ := trodAll_cons s1
  obtain ⟨rfl, rfl, rfl⟩ := trodAll_nil s2
  refine ⟨v0, v1, v2, d0, d1, d2, p0, p1, p2, ?_, rfl, by simp, g0, g1, g2⟩
  apply Array.toList_inj.1
  rw [hargs]
theorem signVerifiesMk {H : Type} {enc : TypeId × Value → H} {P : Program} {w : World} {base : Nat} {spare : Nat → Bool} {held : Bool} {t0 t1 t2 : TypeId} {v0 v1 v2 : Value} {d0 d1 d2 : DataW H} {p0 p1 p2 : List MemPlace} (h0 : DataW.Trod enc P w base spare held t0 v0 d0 p0) (h1 : DataW.Trod enc P w base spare held t1 v1 d1 p1) (h2 : DataW.Trod enc P w base spare held t2 v2 d2 p2) :
    DataW.TrodAll enc P w base spare held [t0, t1, t2] [v0, v1, v2] [d0, d1, d2] (p0 ++ (p1 ++ (p2))) := ⟨p0, _, h0, ⟨p1, _, h1, trodAll_mk1 h2, rfl⟩, rfl⟩

theorem signVerifiesWt {H : Type} (P : Program) (t : TypeId) (ts : List TypeId) (s : ByteArray) (r : List (DataW H)) (h : (DataW.weightsEach P (t :: ts) (.lit (.string s.data.toList) :: r)).all (· ≤ reachBytes) = true) : s.size ≤ 140737488351232 ∧ (DataW.weightsEach P ts r).all (· ≤ reachBytes) = true := by
  simp only [DataW.weightsEach, DataW.weights, List.all_append, Bool.and_eq_true, List.all_cons, List.all_nil, reachBytes, Bool.and_true] at h
  refine ⟨?_, h.2⟩
  have h1 := of_decide_eq_true h.1
  have e : s.data.toList.length = s.size := rfl
  omega

theorem signVerifiesPOwn : ownKnob Tryz.prog.godebug = none := by kernel_rfl

set_option maxRecDepth 100000 in
theorem signVerifiesPLifted (os : Os) (started : os.Started) (H : Type) (enc : TypeId × Value → H) :
    ReturnsInHanded {} Tryz.checked os 4 .any (fun w args => (Rows.signVerifiesSpec.pre enc Tryz.prog Tryz.f4 Rows.signVerifiesRow.domain false w args ∧ laidMetH Tryz.prog Sha.lay5 w) ∧ sizedMet enc Tryz.prog Tryz.f4 (OpenSpec.ofChange Rows.signVerifiesSpec) false w args)
      (Rows.signVerifiesSpec.post enc Tryz.prog Tryz.f4 false true false false) := by
  refine returnsInHanded_of_change_and (C := Tryz.checked) (X := fun w _ => laidMetH Tryz.prog Sha.lay5 w) (fun _ _ _ hh h => h.of_heap hh) signVerifiesPOwn started (by kernel_rfl) Tryz.func4
    (ChangeSpec.witness_at (enc := enc) (C := Tryz.checked) (os := os) (X := fun w _ => laidMetH Tryz.prog Sha.lay5 w) false (World.laidAll Tryz.prog os Sha.lay5) #[.string ByteArray.empty, .string ByteArray.empty, .string ByteArray.empty] 8 (World.laidAll_os _ _ _) (by kernel_rfl) (by kernel_rfl) (by kernel_rfl) (by kernel_rfl) (by kernel_rfl) (Sha.lay_witness os _)) ?_
  intro W base args ds gs before hval0 hW _ hWt hLd _
  have hL := Sha.laid_of hLd
  have hval : ∀ (j : Nat) t v, Tryz.f4.params[j]? = some t → args[j]? = some v → Value.okWide Tryz.prog W .any base t v := hval0
  have hW' := hW
  obtain ⟨p, q, hA0, hV, rfl, hfz, hnd⟩ := hW
  have hA : DataW.TrodAll enc Tryz.prog W 0 (fun _ => true) true Tryz.f4.params.toList args.toList ds p := hA0
  rw [Tryz.params4] at hA hval hWt
  obtain ⟨v0, v1, v2, d0, d1, d2, p0, p1, p2, rfl, rfl, rfl, h0, h1, h2⟩ := signVerifiesTrod hA
  obtain ⟨rfl, rfl⟩ := trodVars_none hV
  obtain ⟨a0, rfl, rfl, rfl, w0⟩ := open_string Tryz.underlying9 (hval 0 9 v0 rfl rfl) h0
  obtain ⟨a1, rfl, rfl, rfl, w1⟩ := open_string Tryz.underlying9 (hval 1 9 v1 rfl rfl) h1
  obtain ⟨a2, rfl, rfl, rfl, w2⟩ := open_string Tryz.underlying9 (hval 2 9 v2 rfl rfl) h2
  obtain ⟨z0, hWt⟩ := signVerifiesWt _ _ _ _ _ hWt
  obtain ⟨z1, hWt⟩ := signVerifiesWt _ _ _ _ _ hWt
  obtain ⟨z2, hWt⟩ := signVerifiesWt _ _ _ _ _ hWt
  clear hWt
  simp only [List.append_nil] at hW'
  clear hA0 hval0
  refine (Sha.c_verifies a0 a1 a2 z0 z1 z2 W hL).mono fun e W' ⟨he, hg⟩ => ?_
  subst he
  exact ⟨_, rfl, _, _, _, [], [], [], hW', trodAll_mk1 (shut_bool Tryz.underlying4 _), signVerifiesMk (shut_string Tryz.underlying9 w0) (shut_string Tryz.underlying9 w1) (shut_string Tryz.underlying9 w2), rfl, hg.frame _, fun h => by cases h⟩

theorem signVerifies_row : Rows.SignVerifiesSaid :=
  OpenClaim.holds_of_wide 4 Tryz.f4 rfl rfl rfl rfl rfl rfl rfl ⟨rfl, rfl, rfl, rfl, rfl⟩ rfl rfl rfl rfl rfl (by kernel_rfl) Tryz.func4 (by kernel_rfl)
    (of_decide_eq_true (by kernel_rfl)) (by unfold Func.isWrapper; rw [if_neg (by decide +kernel)]; exact ⟨rfl, rfl⟩)
    (fun os started H enc _ => signVerifiesPLifted os started H enc)

theorem signVerifies_holds : Rows.SignVerifiesCardSaid :=
  Claim7.holds_tied_plain_at .later [] [.data] true (true, "774d4ef0d8a016455ed7c5108da8a83fa6a61ffc71b720a39aa0ece5fd67df69") false
    signVerifies_row (fun _ h => by cases h) (by kernel_rfl) (fun _ h => by cases h) signVerifies_row_tie rfl ⟨rfl, rfl⟩ (by kernel_rfl) rfl
    (fun f fn hf hfn => by
      obtain rfl : f = 4 := Option.some.inj ((show Tryz.prog.funcNamed "isthmus/isthmuslaw11.SignVerifies" = some 4 by kernel_rfl).symm.trans hf) |>.symm
      obtain rfl : fn = Tryz.f4 := (Option.some.inj (Tryz.func4.symm.trans hfn)).symm
      exact ⟨by kernel_rfl, fun j t ht => by
        rw [Tryz.params4] at ht
        rcases j with _ | _ | _ | j
        · obtain rfl : t = 9 := by simpa using ht.symm
          exact (show Tryz.prog.wantsStandIn 9 = false by kernel_rfl)
        · obtain rfl : t = 9 := by simpa using ht.symm
          exact (show Tryz.prog.wantsStandIn 9 = false by kernel_rfl)
        · obtain rfl : t = 9 := by simpa using ht.symm
          exact (show Tryz.prog.wantsStandIn 9 = false by kernel_rfl)
        · simp at ht⟩)
    (by kernel_rfl)

#print axioms signVerifies_holds
end Go.Proofs.YtmhfmhmpoobmlaaGreatDoor
