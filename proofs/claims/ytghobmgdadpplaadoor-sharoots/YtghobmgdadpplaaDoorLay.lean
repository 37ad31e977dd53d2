/- The package variable: what the condition gives a walk; a world that meets it. -/
import Derived.Test.YtghobmgdadpplaaDoorBase
import Derived.Test.YtghobmgdadpplaaDoorRows
import Derived.Test.YtghobmgdadpplaaDoorTie
import Derived.ProofKit
import Derived.OpenShut
import Derived.Lay
namespace Go.Proofs.YtghobmgdadpplaaDoor
open Go.RowKit

def lay5 : List (String × DataW Unit) := [("isthmus/sha.constants", Rows.laid_isthmus_sha_constants)]
theorem gl0 : Tryd.prog.globalNamed "isthmus/sha.constants" = some 0 := by kernel_rfl
theorem glT : (Tryd.prog.globals[0]?).map (·.type) = some 26 := by kernel_rfl
theorem cells25 : Tryd.prog.cellsOf 25 = 1 := by kernel_rfl
theorem int_of_trod {H : Type} {enc : TypeId × Value → H} {P : Program} {w : World} {base : Nat} {sp : Nat → Bool} {held : Bool} {fuel : Nat} {t : TypeId} {k : IntKind} {c : Value} {y : DataW H × List MemPlace}
    (ht : P.underlying t = some (.int k)) (h : DataW.trod enc P w base sp held fuel t [c] = some y) : ∃ n, c = .int k n ∧ y = (.lit (.int k n), []) := by
  cases fuel with
  | zero => simp [DataW.trod] at h
  | succ fuel =>
    cases c <;> simp [DataW.trod, ht] at h
    rename_i k' n
    obtain ⟨⟨rfl, _⟩, rfl⟩ := h
    exact ⟨n, rfl, rfl⟩
def litsOf : DataW Unit → List (DataW Unit)
  | .agg l => l
  | _ => []
theorem lits_at : ∀ i, i < 80 → (litsOf Rows.laid_isthmus_sha_constants)[i]? = some (.lit (.int .u64 (KF i))) := by
  have h : ((List.range 80).all fun i => match (litsOf Rows.laid_isthmus_sha_constants)[i]? with | some (.lit (.int .u64 n)) => n == KF i | _ => false) = true := by decide +kernel
  intro i hi
  have h2 := List.all_eq_true.1 h i (List.mem_range.2 hi)
  split at h2
  · rename_i n e
    rw [e, eq_of_beq h2]
  · cases h2
theorem laid_of {W : World} (h0 : laidMetH Tryd.prog lay5 W) : Laid W := by
  have h : laidMet Tryd.prog lay5 W := h0
  obtain ⟨ps, ⟨g, t, cs, fuel, p, q, hg, ht, hvar, hd, _, _⟩, _⟩ := h
  obtain rfl := Option.some.inj (gl0.symm.trans hg)
  obtain rfl := Option.some.inj (glT.symm.trans ht)
  obtain ⟨xs, m, _, hx, hlen, hxl, hat⟩ := DataW.trod_array Tryd.underlying26 hd
  have hl80 : cs.toList.length = 80 := hlen.trans (by kernel_rfl)
  have e1 : litsOf Rows.laid_isthmus_sha_constants = xs.map (·.1) := by
    have := congrArg Prod.fst hx
    simp only at this
    rw [this]
    rfl
  intro i hi
  rw [World.var?_cell gl0 hvar i]
  have h1 := hat i hi
  have hi2 : i < cs.toList.length := by omega
  rw [cells25, Nat.mul_one, List.drop_eq_getElem_cons hi2, List.take_succ_cons, List.take_zero, List.getElem?_eq_getElem (by omega)] at h1
  obtain ⟨n, hc, hy⟩ := int_of_trod Tryd.underlying25 h1
  have h3 := lits_at i hi
  rw [e1, List.getElem?_map, List.getElem?_eq_getElem (by omega), hy] at h3
  simp at h3
  subst h3
  rw [← Array.getElem?_toList, List.getElem?_eq_getElem hi2, hc]
theorem lay_witness (os : Os) (args : Array Value) : laidMetH Tryd.prog lay5 ((World.laidAll Tryd.prog os lay5).forCall (fun _ _ => 0) ⟨#[], args, []⟩).memory := laidMet_laidAll (laid := lay5) args (by kernel_rfl) (by kernel_rfl)

end Go.Proofs.YtghobmgdadpplaaDoor
