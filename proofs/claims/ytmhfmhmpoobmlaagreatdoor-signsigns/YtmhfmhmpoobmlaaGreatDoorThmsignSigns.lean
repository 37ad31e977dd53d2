/- Every secret has the public key that the document tells, and every text the signature that it tells: SignSigns is true; the package variable starts as the text lays it (the card ties it). -/
import Derived.Test.YtmhfmhmpoobmlaaGreatDoorCx1
import Derived.Test.YtmhfmhmpoobmlaaGreatDoorCx2
import Derived.Test.YtmhfmhmpoobmlaaGreatDoorCx3
import Derived.Test.YtmhfmhmpoobmlaaGreatDoorCx4
import Derived.Test.YtmhfmhmpoobmlaaGreatDoorCx5
import Derived.Test.YtmhfmhmpoobmlaaGreatDoorCx6
import Derived.Test.YtmhfmhmpoobmlaaGreatDoorCz7
import Derived.Test.YtmhfmhmpoobmlaaGreatDoorCz8
import Derived.Test.YtmhfmhmpoobmlaaGreatDoorCz9
import Derived.Test.YtmhfmhmpoobmlaaGreatDoorCz10
import Derived.Test.YtmhfmhmpoobmlaaGreatDoorCards
import Derived.Test.YtmhfmhmpoobmlaaGreatDoorTie
import Derived.ProofKit
import Derived.OpenShut
import Derived.ShutString
import Derived.SevenTiedAt
import Derived.Carry
namespace Go.Proofs.YtmhfmhmpoobmlaaGreatDoor
open Go.ChangeShapes Go.WideShapes Go.ChangeAt Go.RowKit
open Go.ChangeMaps (open_string shut_string)

theorem signSignsTrod {H : Type} {enc : TypeId × Value → H} {P : Program} {w : World} {base : Nat} {spare : Nat → Bool} {held : Bool} {t0 t1 : TypeId} {args : Array Value} {ds : List (DataW H)} {ps : List MemPlace} (h : DataW.TrodAll enc P w base spare held [t0, t1] args.toList ds ps) :
    ∃ v0 v1 d0 d1 p0 p1, args = #[v0, v1] ∧ ds = [d0, d1] ∧ ps = p0 ++ (p1) ∧ DataW.Trod enc P w base spare held t0 v0 d0 p0 ∧ DataW.Trod enc P w base spare held t1 v1 d1 p1 := by
  obtain ⟨v0, r0, d0, e0, p0, q0, hargs, rfl, rfl, g0, s0⟩ := trodAll_cons h
  obtain ⟨v1, r1, d1, e1, p1, q1, rfl, rfl, rfl, g1, s1⟩ := trodAll_cons s0
  obtain ⟨rfl, rfl, rfl⟩ := trodAll_nil s1
  refine ⟨v0, v1, d0, d1, p0, p1, ?_, rfl, by simp, g0, g1⟩
  apply Array.toList_inj.1
  rw [hargs]
theorem signSignsMk {H : Type} {enc : TypeId × Value → H} {P : Program} {w : World} {base : Nat} {spare : Nat → Bool} {held : Bool} {t0 t1 : TypeId} {v0 v1 : Value} {d0 d1 : DataW H} {p0 p1 : List MemPlace} (h0 : DataW.Trod enc P w base spare held t0 v0 d0 p0) (h1 : DataW.Trod enc P w base spare held t1 v1 d1 p1) :
    DataW.TrodAll enc P w base spare held [t0, t1] [v0, v1] [d0, d1] (p0 ++ (p1)) := ⟨p0, _, h0, trodAll_mk1 h1, rfl⟩

theorem signSignsWt {H : Type} (P : Program) (t : TypeId) (ts : List TypeId) (s : ByteArray) (r : List (DataW H)) (h : (DataW.weightsEach P (t :: ts) (.lit (.string s.data.toList) :: r)).all (· ≤ reachBytes) = true) : s.size ≤ 140737488351232 ∧ (DataW.weightsEach P ts r).all (· ≤ reachBytes) = true := by
  simp only [DataW.weightsEach, DataW.weights, List.all_append, Bool.and_eq_true, List.all_cons, List.all_nil, reachBytes, Bool.and_true] at h
  refine ⟨?_, h.2⟩
  have h1 := of_decide_eq_true h.1
  have e : s.data.toList.length = s.size := rfl
  omega

theorem signSignsPOwn : ownKnob Tryz.prog.godebug = none := by kernel_rfl

set_option maxRecDepth 100000 in
theorem signSignsPLifted (os : Os) (started : os.Started) (H : Type) (enc : TypeId × Value → H) :
    ReturnsInHanded {} Tryz.checked os 3 .any (fun w args => (Rows.signSignsSpec.pre enc Tryz.prog Tryz.f3 Rows.signSignsRow.domain false w args ∧ laidMetH Tryz.prog Sha.lay5 w) ∧ sizedMet enc Tryz.prog Tryz.f3 (OpenSpec.ofChange Rows.signSignsSpec) false w args)
      (Rows.signSignsSpec.post enc Tryz.prog Tryz.f3 false true false false) := by
  refine returnsInHanded_of_change_and (C := Tryz.checked) (X := fun w _ => laidMetH Tryz.prog Sha.lay5 w) (fun _ _ _ hh h => h.of_heap hh) signSignsPOwn started (by kernel_rfl) Tryz.func3
    (ChangeSpec.witness_at (enc := enc) (C := Tryz.checked) (os := os) (X := fun w _ => laidMetH Tryz.prog Sha.lay5 w) false (World.laidAll Tryz.prog os Sha.lay5) #[.string ByteArray.empty, .string ByteArray.empty] 8 (World.laidAll_os _ _ _) (by kernel_rfl) (by kernel_rfl) (by kernel_rfl) (by kernel_rfl) (by kernel_rfl) (Sha.lay_witness os _)) ?_
  intro W base args ds gs before hval0 hW _ hWt hLd _
  have hL := Sha.laid_of hLd
  have hval : ∀ (j : Nat) t v, Tryz.f3.params[j]? = some t → args[j]? = some v → Value.okWide Tryz.prog W .any base t v := hval0
  have hW' := hW
  obtain ⟨p, q, hA0, hV, rfl, hfz, hnd⟩ := hW
  have hA : DataW.TrodAll enc Tryz.prog W 0 (fun _ => true) true Tryz.f3.params.toList args.toList ds p := hA0
  rw [Tryz.params3] at hA hval hWt
  obtain ⟨v0, v1, d0, d1, p0, p1, rfl, rfl, rfl, h0, h1⟩ := signSignsTrod hA
  obtain ⟨rfl, rfl⟩ := trodVars_none hV
  obtain ⟨a0, rfl, rfl, rfl, w0⟩ := open_string Tryz.underlying9 (hval 0 9 v0 rfl rfl) h0
  obtain ⟨a1, rfl, rfl, rfl, w1⟩ := open_string Tryz.underlying9 (hval 1 9 v1 rfl rfl) h1
  obtain ⟨z0, hWt⟩ := signSignsWt _ _ _ _ _ hWt
  obtain ⟨z1, hWt⟩ := signSignsWt _ _ _ _ _ hWt
  clear hWt
  simp only [List.append_nil] at hW'
  clear hA0 hval0
  refine (Sha.c_signs a0 a1 z0 z1 W hL).mono fun e W' ⟨he, hg⟩ => ?_
  subst he
  exact ⟨_, rfl, _, _, _, [], [], [], hW', trodAll_mk1 (shut_bool Tryz.underlying4 _), signSignsMk (shut_string Tryz.underlying9 w0) (shut_string Tryz.underlying9 w1), rfl, hg.frame _, fun h => by cases h⟩

theorem signSigns_row : Rows.SignSignsSaid :=
  OpenClaim.holds_of_wide 3 Tryz.f3 rfl rfl rfl rfl rfl rfl rfl ⟨rfl, rfl, rfl, rfl, rfl⟩ rfl rfl rfl rfl rfl (by kernel_rfl) Tryz.func3 (by kernel_rfl)
    (of_decide_eq_true (by kernel_rfl)) (by unfold Func.isWrapper; rw [if_neg (by decide +kernel)]; exact ⟨rfl, rfl⟩)
    (fun os started H enc _ => signSignsPLifted os started H enc)

theorem signSigns_holds : Rows.SignSignsCardSaid :=
  Claim7.holds_tied_plain_at .later [] [.data] true (true, "774d4ef0d8a016455ed7c5108da8a83fa6a61ffc71b720a39aa0ece5fd67df69") false
    signSigns_row (fun _ h => by cases h) (by kernel_rfl) (fun _ h => by cases h) signSigns_row_tie rfl ⟨rfl, rfl⟩ (by kernel_rfl) rfl
    (fun f fn hf hfn => by
      obtain rfl : f = 3 := Option.some.inj ((show Tryz.prog.funcNamed "isthmus/isthmuslaw11.SignSigns" = some 3 by kernel_rfl).symm.trans hf) |>.symm
      obtain rfl : fn = Tryz.f3 := (Option.some.inj (Tryz.func3.symm.trans hfn)).symm
      exact ⟨by kernel_rfl, fun j t ht => by
        rw [Tryz.params3] at ht
        rcases j with _ | _ | j
        · obtain rfl : t = 9 := by simpa using ht.symm
          exact (show Tryz.prog.wantsStandIn 9 = false by kernel_rfl)
        · obtain rfl : t = 9 := by simpa using ht.symm
          exact (show Tryz.prog.wantsStandIn 9 = false by kernel_rfl)
        · simp at ht⟩)
    (by kernel_rfl)

#print axioms signSigns_holds
end Go.Proofs.YtmhfmhmpoobmlaaGreatDoor
