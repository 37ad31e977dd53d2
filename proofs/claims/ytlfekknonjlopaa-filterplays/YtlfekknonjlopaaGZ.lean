/- The document's filter: its calls. -/
import Derived.Test.YtlfekknonjlopaaGY
import Derived.Test.YtlfekknonjlopaaXZ
namespace Go.Proofs.Ytlfekknonjlopaa
open Go.RowKit
set_option linter.unusedVariables false
set_option linter.unusedSimpArgs false
set_option maxHeartbeats 0
set_option maxRecDepth 100000
variable {C : World → Prop}
theorem c_rOut (rv : Value) (a : Ans) (h : Hed) (t : Int) (hl : a.l.length < 100000) : Ct S0 C 14 [vP 0 0, hdS h, vV (.int .u64 t)] [] [rfI rv a 1, tD (livD a.l)] [rfI rv (outS h.f a t).2 2, gap] [tD (livD (outS h.f a t).2.l)] (vV (.int .i64 (outS h.f a t).1)) := by
  by_cases big : t ≥ 4611686018427387904
  · rw [show outS h.f a t = (2, a) from if_pos big]
    refine xIn Try.f14 fun E0 w0 hL hC hk => ?_
    refine xMove 1 [] [(0, 1)] (livD a.l) ?_
    refine xR 16 [(3, dT big)] ?_
    exact (xRetC [2])
  · rw [show outS h.f a t = outF h.f a t from if_neg big]
    have hp := ps_len a t
    have cA := fun C => c_rat (C := C) rv a t hl
    have cV := fun C => c_revD (C := C) h.f
    have cG := fun C => c_ragain (C := C) rv (psA a t) (revF h.f) (by omega)
    unfold outF
    cases q1 : hasL (revF h.f) (psA a t).l
    · rw [if_neg (by simp)]
      rw [q1] at cG
      rw [rnA_miss q1] at cG ⊢
      have hm : (psA a t).most = a.most := rfl
      by_cases q2 : ((psA a t).l.length : Int) ≥ (psA a t).most
      · rw [show adA (psA a t) (revF h.f) = (6, psA a t) from if_pos q2]
        refine xIn Try.f14 fun E0 w0 hL hC hk => ?_
        refine xR 44 [(3, dF big), (6, dC (cA _) [0, 1]), (9, dC (cV _) []), (14, dC (cG _) [0, 3]), (19, dLenR 34 3 5 10 55 livEl ((psA a t).l) ((psA a t).l.length) rfl), (24, dT q2)] ?_
        exact (xRetC [5])
      · rw [show adA (psA a t) (revF h.f) = (0, { psA a t with l := (psA a t).l ++ [⟨revF h.f, untF (psA a t).now (psA a t).life⟩] }) from if_neg q2]
        refine xIn Try.f14 fun E0 w0 hL hC hk => ?_
        refine xR 47 [(3, dF big), (6, dC (cA _) [0, 1]), (9, dC (cV _) []), (14, dC (cG _) [0, 3]), (19, dLenR 34 3 5 10 55 livEl ((psA a t).l) ((psA a t).l.length) rfl), (24, dF q2), (42, dApp_livEl ((psA a t).l) 5 6 ((revF h.f).p) ((revF h.f).s.v) ((revF h.f).s.h) ((revF h.f).s.l) ((revF h.f).d.v) ((revF h.f).d.h) ((revF h.f).d.l) ((revF h.f).fr) ((revF h.f).to) (IntKind.u64.wrap ((psA a t).now + (psA a t).life)) (by omega))] ?_
        exact (xRetC [7])
    · rw [if_pos rfl]
      rw [q1] at cG
      refine xIn Try.f14 fun E0 w0 hL hC hk => ?_
      refine xR 39 [(3, dF big), (6, dC (cA _) [0, 1]), (9, dC (cV _) []), (14, dC (cG _) [0, 3])] ?_
      exact (xRetC [5])
theorem c_rIn (T : List Blk) (l : List Rul) (rv : Value) (hr : rulT T l rv) (ho : rulOk l) (a : Ans) (h : Hed) (t : Int) (hl : a.l.length < 100000) : Ct S0 C 17 [vP 1 0, hdS h, vV (.int .u64 t)] [tX T] [rfI rv a 2, tD (livD a.l)] [rfI rv (inS (matF l h.f) h.f a t).2 3, gap] [tD (livD (inS (matF l h.f) h.f a t).2.l)] (vV (.int .i64 (inS (matF l h.f) h.f a t).1)) := by
  by_cases big : t ≥ 4611686018427387904
  · rw [show inS (matF l h.f) h.f a t = (2, a) from if_pos big]
    refine xIn Try.f17 fun E0 w0 hL hC hk => ?_
    refine xMove 2 [] [(1, 1)] (livD a.l) ?_
    refine xR 16 [(3, dT big)] ?_
    exact (xRetC [3])
  · rw [show inS (matF l h.f) h.f a t = inF (matF l h.f) h.f a t from if_neg big]
    have hp := ps_len a t
    have cA := fun C => c_rat (C := C) rv a t hl
    have cM := fun C => c_MatD (C := C) T l rv h hr ho
    have cG := fun C => c_ragain (C := C) rv (psA a t) h.f (by omega)
    unfold inF
    clear hr
    generalize matF l h.f = m at *
    by_cases q0 : m ≥ 0
    · rw [if_pos q0]
      refine xIn Try.f17 fun E0 w0 hL hC hk => ?_
      refine xR 27 [(3, dF big), (6, dC (cA _) [1, 2]), (12, dC (cM _) [0]), (13, dT q0)] ?_
      exact (xRetC [4])
    · rw [if_neg q0]
      cases q1 : hasL h.f (psA a t).l
      · rw [q1] at cG
        refine xIn Try.f17 fun E0 w0 hL hC hk => ?_
        refine xR 28 [(3, dF big), (6, dC (cA _) [1, 2]), (12, dC (cM _) [0]), (13, dF q0), (18, dC (cG _) [1, 4])] ?_
        exact (xRetC [5])
      · rw [q1] at cG
        refine xIn Try.f17 fun E0 w0 hL hC hk => ?_
        refine xR 27 [(3, dF big), (6, dC (cA _) [1, 2]), (12, dC (cM _) [0]), (13, dF q0), (18, dC (cG _) [1, 4])] ?_
        exact (xRetC [5])
end Go.Proofs.Ytlfekknonjlopaa
