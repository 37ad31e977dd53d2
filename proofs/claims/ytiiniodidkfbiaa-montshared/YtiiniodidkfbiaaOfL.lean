/- The contracts of the law's of; when an answer is the document's. -/
import Derived.Test.YtiiniodidkfbiaaOfB
import Derived.Test.YtiiniodidkfbiaaIs
namespace Go.Proofs.Ytiiniodidkfbiaa
open Go.RowKit

theorem Pm_pos : (0 : Int) < Pm := by decide
theorem Pm_16 : Pm < 65536 ^ 16 := by decide
theorem dS (M : Int) : S (d16 (M % Pm)) 16 = M % Pm := by
  have h0 := Int.emod_nonneg M (show Pm ≠ 0 by decide)
  have h1 := Int.emod_lt_of_pos M Pm_pos
  have h2 := Pm_16
  rw [d16_S _ h0, Int.emod_eq_of_lt h0 (by omega)]
theorem dlt (M : Int) : S (d16 (M % Pm)) 16 < Pm := by
  rw [dS]
  exact Int.emod_lt_of_pos M Pm_pos

theorem eqd {x y : Int} : eqw (d16 (x % Pm)) (d16 (y % Pm)) 0 16 = (x % Pm == y % Pm) := by
  rw [Bool.eq_iff_iff, eqw_iff, beq_iff_eq]
  constructor
  · intro h
    rw [← dS x, ← dS y]
    exact S_congr fun i hi => h i (by omega) (by omega)
  · intro h i _ _
    rw [h]

theorem quiet_eql {C : World → Prop} {o : Oper} {a : Act} {K : Act → Prop} (f g : Nat → Int) (x y : Operand) (rt : TypeId) (ho : o.op = .binOp .eql 35 x y rt) (hx : a.eval x = .agg (arr 16 f)) (hy : a.eval y = .agg (arr 16 g))
    (hk : K (a.put o.dst (.bool (eqw f g 0 16)))) : o.quiet Try.prog a C K := by
  have hgu : Try.prog.eqGuardType Try.prog.depth 35 = false := by kernel_rfl
  refine ⟨.bool (eqw f g 0 16), fun w hw => ?_, hk⟩
  unfold Oper.quietAt execOp
  simp only [ho, hx, hy, Sem.run_bind, Result.andThen_ok, run_eqGuard_agg (hm := hgu), run_eql_words 35 16 f g w Try.underlying35, Sem.run_pure]
  exact ⟨rfl, rfl⟩

theorem quiet_neq {C : World → Prop} {o : Oper} {a : Act} {K : Act → Prop} (f g : Nat → Int) (x y : Operand) (rt : TypeId) (ho : o.op = .binOp .neq 35 x y rt) (hx : a.eval x = .agg (arr 16 f)) (hy : a.eval y = .agg (arr 16 g))
    (hk : K (a.put o.dst (.bool (!eqw f g 0 16)))) : o.quiet Try.prog a C K := by
  have hgu : Try.prog.eqGuardType Try.prog.depth 35 = false := by kernel_rfl
  have hn : ∀ w, (binOp .neq 35 (.agg (arr 16 f)) (.agg (arr 16 g))).run Try.prog w = .ok (.bool (!eqw f g 0 16)) w := fun w => by
    rw [run_neq_struct, run_equalIn_words 9998 35 16 f g w Try.underlying35]
    rfl
  refine ⟨.bool (!eqw f g 0 16), fun w hw => ?_, hk⟩
  unfold Oper.quietAt execOp
  simp only [ho, hx, hy, Sem.run_bind, Result.andThen_ok, run_eqGuard_agg (hm := hgu), hn, Sem.run_pure]
  exact ⟨rfl, rfl⟩

end Go.Proofs.Ytiiniodidkfbiaa
