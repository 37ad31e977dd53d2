/- Those go whose time has come: the list. -/
import Derived.Test.YtlfekknonjlopaaG3
import Derived.Test.YtlfekknonjlopaaXY
namespace Go.Proofs.Ytlfekknonjlopaa
open Go.RowKit
set_option linter.unusedVariables false
set_option linter.unusedSimpArgs false
set_option maxHeartbeats 0
set_option maxRecDepth 100000
variable {C : World → Prop}
def al (now : Int) (p : Nat × Liv) : Bool := decide (p.2.u > now)
abbrev pF (L : List (Nat × Liv)) : Nat → Nat → Value := fun i _ => .pointer (some ⟨(L.getD i lv0).1, 0, none⟩)
abbrev gFn : SV := vF (.func 55) [] [vP 0 0]
theorem c_idx0 (ga gm gl : Nat) (lv : Value) (most life now : Int) (Tl Tv : List Blk) (L : List (Nat × Liv)) (base : Option Addr) (cap : Nat) (H : SlO Tl 1 L.length (pF L) base gl 0) (hm : ∀ x, x < L.length → livB (L.getD x lv0).1 (L.getD x lv0).2 ∈ Tv) (hl : L.length < 100000) (q0 : ∀ i, i < L.length → al now (L.getD i lv0) = true) :
    Ct S0 C 63 [vV (.slice base L.length cap), gFn] [tC [vV (.pointer (some ⟨ga, 0, none⟩))] 68, tX [ansB ga gm lv most life now], tX Tv, tX Tl] [] [] [] (vV (.int .i64 (-1))) := by
  refine xIn Try.f63 fun E0 w0 hL hC hk => ?_
  refine xR 12 [] ?_
  refine xLp (fun (x : Nat) => [(8, vV (.int .i64 (x : Int)))]) (fun x => []) [9, 10, 5, 11, 12, 13, 14, 15, 16, 17, 4, 18] (fun x => x ≤ L.length) (fun x => L.length - x) 0 (Nat.zero_le _) fun x d hx g => ?_
  by_cases q3 : (x : Int) < (L.length : Int)
  · have hm3 : (⟨(L.getD x lv0).1, .cells (lvC (L.getD x lv0).2).toArray 55 (0, 0)⟩ : Blk) ∈ Tv := hm x (by omega)
    have q4 : (L.getD x lv0).2.u > now := of_decide_eq_true (q0 x (by omega))
    refine xR 30 [(0, dT q3), (6, dIxR 86 H cap x (by omega)), (7, dLdR1 89 3 H x 0 (0 + x * 1) (by omega)), (8, dC (c_goes0 ga gm ((L.getD x lv0).fst) lv most life now Tv _ q4 hm3) [0, 1, 2]), (9, dW ((↑x : Int) + 1) ((↑(x + 1) : Int)) (by omega) (by omega) (by omega))] ?_
    exact xNx g (x + 1) [9, 10, 5, 11, 12, 13, 14, 15, 16, 17, 4, 18] [0, 1, 2, 3] (by omega) (by omega)
  · refine xR 11 [(0, dF q3)] ?_
    exact (xRetC [])
theorem c_idx1 (ga gm gl : Nat) (lv : Value) (most life now : Int) (Tl Tv : List Blk) (L : List (Nat × Liv)) (base : Option Addr) (cap : Nat) (ms : List (Flw × Value × Nat)) (clock : Nat) (H : SlO Tl 1 L.length (pF L) base gl 0) (hm : ∀ x, x < L.length → livB (L.getD x lv0).1 (L.getD x lv0).2 ∈ Tv) (hl : L.length < 100000) (k : Nat) (hk1 : k < L.length) (q0 : ∀ i, i < k → al now (L.getD i lv0) = true) (q1 : al now (L.getD k lv0) = false) (v : Value) (q2 : lkM (L.getD k lv0).2.f ms = some v) :
    Ct S0 C 63 [vV (.slice base L.length cap), gFn] [tC [vV (.pointer (some ⟨ga, 0, none⟩))] 68, tX [ansB ga gm lv most life now], tX Tv, tX Tl] [tX [mapB gm ms clock]] [tX [mapB gm (rmM (L.getD k lv0).2.f ms) clock]] [] (vV (.int .i64 (k : Int))) := by
  refine xIn Try.f63 fun E0 w0 hL hC hk => ?_
  refine xR 12 [] ?_
  refine xLp (fun (x : Nat) => [(8, vV (.int .i64 (x : Int)))]) (fun x => []) [9, 10, 5, 11, 12, 13, 14, 15, 16, 17, 4, 18] (fun x => x ≤ k) (fun x => k - x) 0 (Nat.zero_le _) fun x d hx g => ?_
  have q3 : (x : Int) < (L.length : Int) := by omega
  have hm3 : (⟨(L.getD x lv0).1, .cells (lvC (L.getD x lv0).2).toArray 55 (0, 0)⟩ : Blk) ∈ Tv := hm x (by omega)
  by_cases q6 : x = k
  · subst q6
    have q4 : ¬ (L.getD x lv0).2.u > now := of_decide_eq_false q1
    refine xR 29 [(0, dT q3), (6, dIxR 86 H cap x hk1), (7, dLdR1 89 3 H x 0 (0 + x * 1) hk1), (8, dC (c_goes1 ga gm ((L.getD x lv0).fst) lv most life now Tv _ ms clock q4 hm3 _ q2) [0, 1, 2, 4])] ?_
    exact (xRetC [])
  · have q4 : (L.getD x lv0).2.u > now := of_decide_eq_true (q0 x (by omega))
    refine xR 30 [(0, dT q3), (6, dIxR 86 H cap x (by omega)), (7, dLdR1 89 3 H x 0 (0 + x * 1) (by omega)), (8, dC (c_goes0 ga gm ((L.getD x lv0).fst) lv most life now Tv _ q4 hm3) [0, 1, 2]), (9, dW ((↑x : Int) + 1) ((↑(x + 1) : Int)) (by omega) (by omega) (by omega))] ?_
    exact xNx g (x + 1) [9, 10, 5, 11, 12, 13, 14, 15, 16, 17, 4, 18] [0, 1, 2, 3, 4] (by omega) (by omega)
end Go.Proofs.Ytlfekknonjlopaa
