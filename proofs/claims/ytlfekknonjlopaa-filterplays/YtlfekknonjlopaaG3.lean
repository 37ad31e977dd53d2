/- Those go whose time has come. -/
import Derived.Test.YtlfekknonjlopaaG2
import Derived.Test.YtlfekknonjlopaaXY
namespace Go.Proofs.Ytlfekknonjlopaa
open Go.RowKit
set_option linter.unusedVariables false
set_option linter.unusedSimpArgs false
set_option maxHeartbeats 0
set_option maxRecDepth 100000
variable {C : World → Prop}
theorem c_goes0 (ga gm g : Nat) (lv : Value) (most life now : Int) (Tv : List Blk) (y : Liv) (q1 : y.u > now) (hm : (⟨g, .cells (lvC y).toArray 55 (0, 0)⟩ : Blk) ∈ Tv) : Ct S0 C 55 [vV (.pointer (some ⟨g, 0, none⟩)), vP 0 0] [tC [vV (.pointer (some ⟨ga, 0, none⟩))] 68, tX [ansB ga gm lv most life now], tX Tv] [] [] [] (vV (.bool false)) := by
  refine xIn Try.f55 fun E0 w0 hL hC hk => ?_
  have hm2 : (⟨ga, .cells [.int .i64 most, .int .u64 life, .int .u64 now, .map (some gm), lv].toArray 88 (0, 0)⟩ : Blk) ∈ [ansB ga gm lv most life now] := List.mem_singleton.2 rfl
  refine xR 12 [(4, dLdX 23 2 _ _ 9 _ _ (Value.int IntKind.u64 y.u) hm rfl), (8, dLdX 23 1 _ _ 2 _ _ (Value.int IntKind.u64 now) hm2 rfl), (9, dT q1)] ?_
  exact (xRetC [])
theorem c_goes1 (ga gm g : Nat) (lv : Value) (most life now : Int) (Tv : List Blk) (y : Liv) (ms : List (Flw × Value × Nat)) (clock : Nat) (q1 : ¬ y.u > now) (hm : (⟨g, .cells (lvC y).toArray 55 (0, 0)⟩ : Blk) ∈ Tv) (v : Value) (q2 : lkM y.f ms = some v) : Ct S0 C 55 [vV (.pointer (some ⟨g, 0, none⟩)), vP 0 0] [tC [vV (.pointer (some ⟨ga, 0, none⟩))] 68, tX [ansB ga gm lv most life now], tX Tv] [tX [mapB gm ms clock]] [tX [mapB gm (rmM y.f ms) clock]] [] (vV (.bool true)) := by
  refine xIn Try.f55 fun E0 w0 hL hC hk => ?_
  have hm2 : (⟨ga, .cells [.int .i64 most, .int .u64 life, .int .u64 now, .map (some gm), lv].toArray 88 (0, 0)⟩ : Blk) ∈ [ansB ga gm lv most life now] := List.mem_singleton.2 rfl
  refine xR 11 [(4, dLdX 23 2 _ _ 9 _ _ (Value.int IntKind.u64 y.u) hm rfl), (8, dLdX 23 1 _ _ 2 _ _ (Value.int IntKind.u64 now) hm2 rfl), (9, dF q1), (13, dLdX 85 1 _ _ 3 _ _ (Value.map (some gm)) hm2 rfl), (17, dLdXn 42 2 _ _ 0 _ _ [Value.int IntKind.u8 y.f.p, Value.bool y.f.s.v, Value.int IntKind.u64 y.f.s.h, Value.int IntKind.u64 y.f.s.l, Value.bool y.f.d.v, Value.int IntKind.u64 y.f.d.h, Value.int IntKind.u64 y.f.d.l, Value.int IntKind.u16 y.f.fr, Value.int IntKind.u16 y.f.to] hm (cells_at rfl)), (18, dDel 85 42 89 0 [85, 42] [false, false] kmF 3 [] [] gm ms clock y.f (flS y.f) (flS_den y.f) v q2)] ?_
  refine xR 4 [] ?_
  exact (xRetC [])
end Go.Proofs.Ytlfekknonjlopaa
