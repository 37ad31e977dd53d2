/- When two arrays of words are the same. -/
import Derived.Test.YtaaijicpdampiaaRow
import Derived.Test.YtaaijicpdampiaaRows
import Derived.Laws.StructEq
namespace Go.Proofs.Ytaaijicpdampiaa
open Go.RowKit

/-- The words from k on, m of them, are the same. -/
def eqw (f g : Nat → Int) : Nat → Nat → Bool
  | _, 0 => true
  | k, m + 1 => (f k == g k) && eqw f g (k + 1) m

theorem run_eqs_from (d n : Nat) (f g : Nat → Int) (w : World) : ∀ (m k : Nat), k + m ≤ n →
    Sem.run Try.prog (forIn (List.range' k m 1) ((none, ()) : Option Bool × Unit) fun i _ => do
      let a ← part 23 (arr n f) i
      let b ← part 23 (arr n g) i
      let r ← Op.equalIn (d + 1) 23 a b
      if (!r) = true then pure (ForInStep.done (some false, ())) else pure (ForInStep.yield (none, ()))) w = .ok (if eqw f g k m = true then none else some false, ()) w := by
  intro m
  induction m with
  | zero => intro k _; simp [eqw, Sem.run_pure]
  | succ m ih =>
    intro k hk
    have hp : ∀ h : Nat → Int, (part 23 (arr n h) k).run Try.prog w = .ok (.int .u64 (h k)) w := fun h => by
      have ha : (isAgg 23).run Try.prog w = .ok false w := by kernel_rfl
      simp [part, Sem.run_bind, ha, arr_get n h k (by omega)]
    simp only [List.range'_succ, List.forIn_cons, Sem.run_bind, hp, Result.andThen_ok, run_equalIn_int w d 23 .u64 .u64 (f k) (g k) Try.underlying23]
    cases hc : (f k == g k)
    · simp [eqw, hc, Sem.run_pure]
    · simp only [Bool.not_true, Bool.false_eq_true, if_false, Sem.run_pure, Result.andThen_ok, eqw, hc, Bool.true_and]
      exact ih (k + 1) (by omega)

theorem run_equalIn_words (d : Nat) (t : TypeId) (n : Nat) (f g : Nat → Int) (w : World) (ht : Try.prog.underlying t = some (.array n 23)) :
    (Op.equalIn (d + 1 + 1) t (.agg (arr n f)) (.agg (arr n g))).run Try.prog w = .ok (eqw f g 0 n) w := by
  have hz : (sizeOf 23).run Try.prog w = .ok 1 w := by kernel_rfl
  rw [Op.equalIn]
  simp only [Sem.run_bind, run_underlying ht, Result.andThen_ok, hz, Nat.mul_one]
  rw [Std.Legacy.Range.forIn_eq_forIn_range']
  have e : ([:n] : Std.Legacy.Range).size = n := by simp [Std.Legacy.Range.size]
  rw [e]
  have h := run_eqs_from d n f g w n 0 (by omega)
  rw [h]
  cases hc : eqw f g 0 n <;> simp [Sem.run_pure]

theorem run_eql_words (t : TypeId) (n : Nat) (f g : Nat → Int) (w : World) (ht : Try.prog.underlying t = some (.array n 23)) :
    (binOp .eql t (.agg (arr n f)) (.agg (arr n g))).run Try.prog w = .ok (.bool (eqw f g 0 n)) w := by
  rw [run_eql_struct, run_equalIn_words 9998 t n f g w ht]
  rfl

theorem eqw_iff (f g : Nat → Int) : ∀ (m k : Nat), eqw f g k m = true ↔ ∀ i, k ≤ i → i < k + m → f i = g i := by
  intro m
  induction m with
  | zero => intro k; simp only [eqw]; exact ⟨fun _ i h1 h2 => by omega, fun _ => trivial⟩
  | succ m ih =>
    intro k
    simp only [eqw, Bool.and_eq_true, beq_iff_eq, ih (k + 1)]
    constructor
    · intro h i h1 h2
      by_cases e : i = k
      · rw [e]; exact h.1
      · exact h.2 i (by omega) (by omega)
    · intro h
      exact ⟨h k (by omega) (by omega), fun i h1 h2 => h i (by omega) (by omega)⟩

end Go.Proofs.Ytaaijicpdampiaa
