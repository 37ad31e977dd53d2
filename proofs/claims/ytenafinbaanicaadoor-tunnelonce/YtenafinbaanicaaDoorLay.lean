/- The package variable: what the condition gives a walk; a world that meets it. -/
import Derived.Test.YtenafinbaanicaaDoorBase
import Derived.Test.YtenafinbaanicaaDoorRows
import Derived.Test.YtenafinbaanicaaDoorTie
import Derived.ProofKit
import Derived.OpenShut
import Derived.Lay
namespace Go.Proofs.YtenafinbaanicaaDoor
open Go.RowKit

def lay6 : List (String × DataW Unit) := [("isthmus/chacha.turns", Rows.laid_isthmus_chacha_turns)]
theorem gl0 : Tryd.prog.globalNamed "isthmus/chacha.turns" = some 1 := by kernel_rfl
theorem glT : (Tryd.prog.globals[1]?).map (·.type) = some 151 := by kernel_rfl
theorem cells3 : Tryd.prog.cellsOf 3 = 1 := by kernel_rfl
theorem cells150 : Tryd.prog.cellsOf 150 = 2 := by kernel_rfl
theorem int_of_trod {H : Type} {enc : TypeId × Value → H} {P : Program} {w : World} {base : Nat} {sp : Nat → Bool} {held : Bool} {fuel : Nat} {t : TypeId} {k : IntKind} {c : Value} {y : DataW H × List MemPlace}
    (ht : P.underlying t = some (.int k)) (h : DataW.trod enc P w base sp held fuel t [c] = some y) : ∃ n, c = .int k n ∧ y = (.lit (.int k n), []) := by
  cases fuel with
  | zero => simp [DataW.trod] at h
  | succ fuel =>
    cases c <;> simp [DataW.trod, ht] at h
    rename_i k' n
    obtain ⟨⟨rfl, _⟩, rfl⟩ := h
    exact ⟨n, rfl, rfl⟩
def litsOf : DataW Unit → List (DataW Unit)
  | .agg l => l
  | _ => []
theorem lits_at : ∀ a, a < 2 → ∀ b, b < 2 → (litsOf (((litsOf Rows.laid_isthmus_chacha_turns)[a]?).getD .nil))[b]? = some (.lit (.int .i64 (TF (a * 2 + b)))) := by
  have h : ((List.range 2).all fun a => (List.range 2).all fun b => match (litsOf (((litsOf Rows.laid_isthmus_chacha_turns)[a]?).getD .nil))[b]? with | some (.lit (.int .i64 n)) => n == (TF (a * 2 + b)) | _ => false) = true := by decide +kernel
  intro a ha b hb
  have h1 := List.all_eq_true.1 h a (List.mem_range.2 ha)
  have h2 := List.all_eq_true.1 h1 b (List.mem_range.2 hb)
  split at h2
  · rename_i n e
    rw [e, eq_of_beq h2]
  · cases h2
theorem laid_of {W : World} (h0 : laidMetH Tryd.prog lay6 W) : Laid W := by
  have h : laidMet Tryd.prog lay6 W := h0
  obtain ⟨ps, ⟨g, t, cs, fuel, p, q, hg, ht, hvar, hd, _, _⟩, _⟩ := h
  obtain rfl := Option.some.inj (gl0.symm.trans hg)
  obtain rfl := Option.some.inj (glT.symm.trans ht)
  obtain ⟨xs, m, _, hx, hlen, hxl, hat⟩ := DataW.trod_array Tryd.underlying151 hd
  have hl160 : cs.toList.length = 4 := hlen.trans (by kernel_rfl)
  have e1 : litsOf Rows.laid_isthmus_chacha_turns = xs.map (·.1) := by
    have := congrArg Prod.fst hx
    simp only at this
    rw [this]
    rfl
  refine ⟨fun i hi => ?_⟩
  rw [World.var?_cell gl0 hvar i]
  obtain ⟨a, ha⟩ : ∃ a, a = i / 2 := ⟨_, rfl⟩
  obtain ⟨b, hb⟩ : ∃ b, b = i % 2 := ⟨_, rfl⟩
  have hi3 : i = a * 2 + b := by omega
  have ha1 : a < 2 := by omega
  have hb1 : b < 2 := by omega
  have h1 := hat a ha1
  rw [cells150, List.getElem?_eq_getElem (by omega)] at h1
  have h3 := lits_at a ha1 b hb1
  rw [e1, List.getElem?_map, List.getElem?_eq_getElem (l := xs) (i := a) (by omega), Option.map_some, Option.getD_some] at h3
  generalize xs[a] = xa at h1 h3
  obtain ⟨ys, m2, _, hy, hlen2, hyl, hat2⟩ := DataW.trod_array Tryd.underlying150 h1
  have e2 : litsOf xa.1 = ys.map (·.1) := by rw [hy]; rfl
  have h4 := hat2 b hb1
  have hl2 : cs.size = 4 := by simpa using hl160
  have hi2 : b < (List.take 2 (List.drop (a * 2) cs.toList)).length := by simp; omega
  rw [cells3, Nat.mul_one, List.drop_eq_getElem_cons hi2, List.take_succ_cons, List.take_zero, List.getElem?_eq_getElem (by omega)] at h4
  obtain ⟨n, hc, hy2⟩ := int_of_trod Tryd.underlying3 h4
  rw [e2, List.getElem?_map, List.getElem?_eq_getElem (l := ys) (i := b) (by omega), hy2] at h3
  simp at h3
  subst h3
  have e5 : cs.toList[i]? = some (List.take 2 (List.drop (a * 2) cs.toList))[b] := by
    rw [← List.getElem?_eq_getElem hi2, List.getElem?_take_of_lt hb1, List.getElem?_drop, hi3]
  rw [← Array.getElem?_toList, e5, hc, hi3]
theorem lay_witness (os : Os) (args : Array Value) : laidMetH Tryd.prog lay6 ((World.laidAll Tryd.prog os lay6).forCall (fun _ _ => 0) ⟨#[], args, []⟩).memory := laidMet_laidAll (laid := lay6) args (by kernel_rfl) (by kernel_rfl)

end Go.Proofs.YtenafinbaanicaaDoor
