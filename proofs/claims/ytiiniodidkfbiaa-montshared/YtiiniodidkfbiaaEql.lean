/- When two arrays of words are the same. -/
import Derived.Test.YtiiniodidkfbiaaRow
import Derived.Test.YtiiniodidkfbiaaRows
import Derived.Laws.StructEq
namespace Go.Proofs.Ytiiniodidkfbiaa
open Go.RowKit

/-- The words from k on, m of them, are the same. -/
def eqw (f g : Nat → Int) : Nat → Nat → Bool
  | _, 0 => true
  | k, m + 1 => (f k == g k) && eqw f g (k + 1) m

theorem run_eqs_from (d n : Nat) (f g : Nat → Int) (w : World) : ∀ (m k : Nat), k + m ≤ n →
    Sem.run Try.prog (forIn (List.range' k m 1) ((none, ()) : Option Bool × Unit) fun i _ => do
      let a ← part 33 (arr n f) i
      let b ← part 33 (arr n g) i
      let r ← Op.equalIn (d + 1) 33 a b
      if (!r) = true then pure (ForInStep.done (some false, ())) else pure (ForInStep.yield (none, ()))) w = .ok (if eqw f g k m = true then none else some false, ()) w := by
  intro m
  induction m with
  | zero => intro k _; simp [eqw, Sem.run_pure]
  | succ m ih =>
    intro k hk
    have hp : ∀ h : Nat → Int, (part 33 (arr n h) k).run Try.prog w = .ok (.int .u64 (h k)) w := fun h => by
      have ha : (isAgg 33).run Try.prog w = .ok false w := by kernel_rfl
      simp [part, Sem.run_bind, ha, arr_get n h k (by omega)]
    simp only [List.range'_succ, List.forIn_cons, Sem.run_bind, hp, Result.andThen_ok, run_equalIn_int w d 33 .u64 .u64 (f k) (g k) Try.underlying33]
    cases hc : (f k == g k)
    · simp [eqw, hc, Sem.run_pure]
    · simp only [Bool.not_true, Bool.false_eq_true, if_false, Sem.run_pure, Result.andThen_ok, eqw, hc, Bool.true_and]
      exact ih (k + 1) (by omega)

theorem run_equalIn_words (d : Nat) (t : TypeId) (n : Nat) (f g : Nat → Int) (w : World) (ht : Try.prog.underlying t = some (.array n 33)) :
    (Op.equalIn (d + 1 + 1) t (.agg (arr n f)) (.agg (arr n g))).run Try.prog w = .ok (eqw f g 0 n) w := by
  have hz : (sizeOf 33).run Try.prog w = .ok 1 w := by kernel_rfl
  rw [Op.equalIn]
  simp only [Sem.run_bind, run_underlying ht, Result.andThen_ok, hz, Nat.mul_one]
  rw [Std.Legacy.Range.forIn_eq_forIn_range']
  have e : ([:n] : Std.Legacy.Range).size = n := by simp [Std.Legacy.Range.size]
  rw [e]
  have h := run_eqs_from d n f g w n 0 (by omega)
  rw [h]
  cases hc : eqw f g 0 n <;> simp [Sem.run_pure]

theorem run_eql_words (t : TypeId) (n : Nat) (f g : Nat → Int) (w : World) (ht : Try.prog.underlying t = some (.array n 33)) :
    (binOp .eql t (.agg (arr n f)) (.agg (arr n g))).run Try.prog w = .ok (.bool (eqw f g 0 n)) w := by
  rw [run_eql_struct, run_equalIn_words 9998 t n f g w ht]
  rfl

def E5.fn (x : E5) (i : Nat) : Int := [x.a, x.b, x.c, x.d, x.e].getD i 0
/-- Part by part the same. -/
def eq5 (x y : E5) : Bool := eqw x.fn y.fn 0 5

theorem run_eql_e5 (x y : E5) (w : World) : (binOp .eql 39 x.v y.v).run Try.prog w = .ok (.bool (eq5 x y)) w :=
  run_eql_words 39 5 x.fn y.fn w Try.underlying39

theorem eq5_iff (x y : E5) : eq5 x y = true ↔ x = y := by
  obtain ⟨a, b, c, d, e⟩ := x
  obtain ⟨f, g, h, i, j⟩ := y
  simp only [eq5, eqw, E5.fn, E5.mk.injEq]
  simp

theorem eqw_iff (f g : Nat → Int) : ∀ (m k : Nat), eqw f g k m = true ↔ ∀ i, k ≤ i → i < k + m → f i = g i := by
  intro m
  induction m with
  | zero => intro k; simp only [eqw]; exact ⟨fun _ i h1 h2 => by omega, fun _ => trivial⟩
  | succ m ih =>
    intro k
    simp only [eqw, Bool.and_eq_true, beq_iff_eq, ih (k + 1)]
    constructor
    · intro h i h1 h2
      by_cases e : i = k
      · rw [e]; exact h.1
      · exact h.2 i (by omega) (by omega)
    · intro h
      exact ⟨h k (by omega) (by omega), fun i h1 h2 => h i (by omega) (by omega)⟩

end Go.Proofs.Ytiiniodidkfbiaa
