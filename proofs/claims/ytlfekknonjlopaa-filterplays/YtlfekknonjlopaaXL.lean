/- From the shelf's contracts, and to a law's. -/
import Derived.Test.YtlfekknonjlopaaXU
namespace Go.Proofs.Ytlfekknonjlopaa
open Go.RowKit
set_option linter.unusedVariables false
set_option linter.unusedSimpArgs false

section
variable {P : Program} {S : Seat P} {C : World → Prop} {f : FuncId}
theorem vV_map (E : Nat → Ent) (args : List Value) : (args.map vV).map (SV.den E) = args := by
  rw [List.map_map]
  exact List.map_id args
/-- A contract over plain values that changes nothing that was there. -/
theorem ct_flat {args : List Value} {v : Value} (h : ∀ w, S.laid w → C w → Calls P f args.toArray w fun e w' => e = .returned v ∧ Below w.heap.size w w')
    (he : (fun (args : Array Value) (w : World) => (callFunc f args).run P w) = fun args w => .ok (.enter f args) w := by kernel_rfl) : Ct S C f (args.map vV) [] [] [] [] (vV v) := by
  have he : ∀ (args : Array Value) (w : World), (callFunc f args).run P w = .ok (.enter f args) w := fun args w => congrFun (congrFun he args) w
  refine ⟨fun E w hL hC T hok => ?_⟩
  show Fin P ((callFunc f ((args.map vV).map (SV.den E)).toArray).run P w) _
  rw [vV_map, he]
  refine (h w hL (hC w (grw_refl _ _))).mono ?_
  rintro e w' ⟨rfl, hb⟩
  exact ⟨_, rfl, E, fun _ _ => rfl, by simp [okP, postC, ix], rfl, by simpa [postC, ix, denP] using OkT.below T hb⟩
theorem ct_flatX {xs : List SV} {args : List Value} {v : SV} {r : Value} (h : ∀ w, S.laid w → C w → Calls P f args.toArray w fun e w' => e = .returned r ∧ Below w.heap.size w w') (hx : ∀ E, xs.map (SV.den E) = args) (hv : ∀ E, v.den E = r)
    (he : (fun (args : Array Value) (w : World) => (callFunc f args).run P w) = fun args w => .ok (.enter f args) w := by kernel_rfl) : Ct S C f xs [] [] [] [] v := by
  have he : ∀ (args : Array Value) (w : World), (callFunc f args).run P w = .ok (.enter f args) w := fun args w => congrFun (congrFun he args) w
  refine ⟨fun E w hL hC T hok => ?_⟩
  show Fin P ((callFunc f (xs.map (SV.den E)).toArray).run P w) _
  rw [hx, he]
  refine (h w hL (hC w (grw_refl _ _))).mono ?_
  rintro e w' ⟨rfl, hb⟩
  exact ⟨_, rfl, E, fun _ _ => rfl, by simp [okP, postC, ix], (hv E).symm, by simpa [postC, ix, denP] using OkT.below T hb⟩
theorem ct_flatD {xs : List SV} {args : List Value} {v : SV} (D : Value → List Blk → Prop) (mk : Value → Value) (h : ∀ w, S.laid w → C w → Calls P f args.toArray w fun e w' => (∃ x, e = .returned (mk x) ∧ x.oneCell' = true ∧ D x []) ∧ Below w.heap.size w w') (hx : ∀ E, xs.map (SV.den E) = args) (hv : ∀ E : Nat → Ent, v.den E = mk (E 0).v)
    (he : (fun (args : Array Value) (w : World) => (callFunc f args).run P w) = fun args w => .ok (.enter f args) w := by kernel_rfl) : Ct S C f xs [] [] [] [tD D] v := by
  have he : ∀ (args : Array Value) (w : World), (callFunc f args).run P w = .ok (.enter f args) w := fun args w => congrFun (congrFun he args) w
  refine ⟨fun E w hL hC T hok => ?_⟩
  show Fin P ((callFunc f (xs.map (SV.den E)).toArray).run P w) _
  rw [hx, he]
  refine (h w hL (hC w (grw_refl _ _))).mono ?_
  rintro e w' ⟨⟨x, rfl, h1, h2⟩, hb⟩
  let E' : Nat → Ent := fun i => bif Nat.beq i 0 then ⟨0, x, [], h1⟩ else E i
  refine ⟨_, rfl, E', fun i hi => ?_, fun p hp => ?_, (hv E').symm, by simpa [postC, ix, denP, It.den, tD, E'] using OkT.below T hb⟩
  · cases i with
    | zero => exact absurd hi (by simp [newAt, Nat.blt_eq])
    | succ i => rfl
  · simp only [postC, ix, List.nil_append, List.mem_singleton] at hp
    subst hp
    exact h2
theorem ct_flatB {xs : List SV} {args : List Value} {v : SV} (D : Value → List Blk → Prop) (mk : Value → Value) (h : ∀ w, S.laid w → C w → Calls P f args.toArray w fun e w' => (∃ (x : Value) (T : List Blk), e = .returned (mk x) ∧ x.oneCell' = true ∧ D x T ∧ (∀ b ∈ T, w.heap.size ≤ b.g ∧ w'.heap[b.g]? = some b.Z) ∧ (T.map Blk.g).Nodup) ∧ Below w.heap.size w w') (hx : ∀ E, xs.map (SV.den E) = args) (hv : ∀ E : Nat → Ent, v.den E = mk (E 0).v)
    (he : (fun (args : Array Value) (w : World) => (callFunc f args).run P w) = fun args w => .ok (.enter f args) w := by kernel_rfl) : Ct S C f xs [] [] [] [tD D] v := by
  have he : ∀ (args : Array Value) (w : World), (callFunc f args).run P w = .ok (.enter f args) w := fun args w => congrFun (congrFun he args) w
  refine ⟨fun E w hL hC T hok => ?_⟩
  show Fin P ((callFunc f (xs.map (SV.den E)).toArray).run P w) _
  rw [hx, he]
  refine (h w hL (hC w (grw_refl _ _))).mono ?_
  rintro e w' ⟨⟨x, T', rfl, h1, h2, h3, h4⟩, hb⟩
  let E' : Nat → Ent := fun i => bif Nat.beq i 0 then ⟨0, x, T', h1⟩ else E i
  refine ⟨_, rfl, E', fun i hi => ?_, fun p hp => ?_, (hv E').symm, ?_⟩
  · cases i with
    | zero => exact absurd hi (by simp [newAt, Nat.blt_eq])
    | succ i => rfl
  · simp only [postC, ix, List.nil_append, List.mem_singleton] at hp
    subst hp
    exact h2
  · have e1 : denP E' (postC [] [] [] [tD D]) = T' := by
      show T' ++ [] = T'
      rw [List.append_nil]
    rw [e1]
    exact ⟨grw_below hb _, fun b hm => (h3 b hm).2, h4, fun b hm => .inr (h3 b hm).1⟩
/-- What a call does, said plainly. -/
theorem Ct.calls {args : List Value} {v : Value} {N : List It} (h : Ct S C f (args.map vV) [] [] [] N (vV v)) {w : World} (hL : S.laid w) (hC : ∀ w', Grw w w' [] → C w')
    (he : (fun (args : Array Value) (w : World) => (callFunc f args).run P w) = fun args w => .ok (.enter f args) w := by kernel_rfl) : Calls P f args.toArray w fun e w' => e = .returned v ∧ Grw w w' [] := by
  have he : ∀ (args : Array Value) (w : World), (callFunc f args).run P w = .ok (.enter f args) w := fun args w => congrFun (congrFun he args) w
  have key := h.out (fun _ => ⟨0, .bool true, [], rfl⟩) w hL hC ⟨by simp [ix, denP], by simp [ix, denP], by simp [ix, denP]⟩ (by simp [okP, ix])
  have e : ((oCall f (args.map vV)).sem fun _ => ⟨0, .bool true, [], rfl⟩).run P w = .ok (.enter f args.toArray) w := by
    show (callFunc f ((args.map vV).map (SV.den _)).toArray).run P w = _
    rw [vV_map, he]
  rw [e] at key
  refine Calls.mono key ?_
  rintro e w' ⟨v', rfl, E', -, -, rfl, hT⟩
  exact ⟨rfl, hT.grw⟩
end
end Go.Proofs.Ytlfekknonjlopaa
