/- Part 7 of the walks and facts. -/
import Derived.Test.YtiahdbibeleakaaGreatDoorCa6
import Derived.Lay
import Derived.Test.YtiahdbibeleakaaGreatDoorTie
set_option maxHeartbeats 16000000
set_option maxRecDepth 100000
set_option linter.unusedSimpArgs false
set_option linter.unusedVariables false
namespace Go.Proofs.YtiahdbibeleakaaGreatDoor
open Go.RowKit
def lay6 : List (String × DataW Unit) := [("isthmus/blake.orders", Rows.laid_isthmus_blake_orders), ("isthmus/chacha.turns", Rows.laid_isthmus_chacha_turns)]
theorem int_of_trod {H : Type} {enc : TypeId × Value → H} {P : Program} {w : World} {base : Nat} {sp : Nat → Bool} {held : Bool} {fuel : Nat} {t : TypeId} {k : IntKind} {c : Value} {y : DataW H × List MemPlace}
  (ht : P.underlying t = some (.int k)) (h : DataW.trod enc P w base sp held fuel t [c] = some y) : ∃ n, c = .int k n ∧ y = (.lit (.int k n), []) := by
 cases fuel with
 | zero => simp [DataW.trod] at h
 | succ fuel =>
  cases c <;> simp [DataW.trod, ht] at h
  rename_i k' n
  obtain ⟨⟨rfl, _⟩, rfl⟩ := h
  exact ⟨n, rfl, rfl⟩
def litsOf : DataW Unit → List (DataW Unit)
 | .agg l => l
 | _ => []
theorem glA : Tryz.prog.globalNamed "isthmus/blake.orders" = some 0 := by kernel_rfl
theorem glTA : (Tryz.prog.globals[0]?).map (·.type) = some 236 := by kernel_rfl
theorem clCA : Tryz.prog.cellsOf 5 = 1 := by kernel_rfl
theorem clEA : Tryz.prog.cellsOf 228 = 16 := by kernel_rfl
theorem litsA : ∀ a, a < 10 → ∀ b, b < 16 → (litsOf (((litsOf Rows.laid_isthmus_blake_orders)[a]?).getD .nil))[b]? = some (.lit (.int .u8 (OF (a * 16 + b)))) := by
 have h : ((List.range 10).all fun a => (List.range 16).all fun b => match (litsOf (((litsOf Rows.laid_isthmus_blake_orders)[a]?).getD .nil))[b]? with | some (.lit (.int .u8 n)) => n == (OF (a * 16 + b) : Int) | _ => false) = true := by decide +kernel
 intro a ha b hb
 have h1 := List.all_eq_true.1 h a (List.mem_range.2 ha)
 have h2 := List.all_eq_true.1 h1 b (List.mem_range.2 hb)
 split at h2
 ·rename_i n e
  rw [e, eq_of_beq h2]
 ·cases h2
theorem layA {W : World} {cs : Array Value} {fuel : Nat} {p : List MemPlace} (hvar : W.var? Tryz.prog "isthmus/blake.orders" = some cs) (hd : DataW.trod (fun _ => ()) Tryz.prog W 0 (fun _ => true) false fuel 236 cs.toList = some (Rows.laid_isthmus_blake_orders, p)) : ∀ i, i < 160 → W.cell? ⟨0, i, none⟩ = some (.int .u8 (OF i)) := by
 obtain ⟨xs, m, _, hx, hlen, hxl, hat⟩ := DataW.trod_array Tryz.underlying236 hd
 have hl160 : cs.toList.length = 160 := hlen.trans (by kernel_rfl)
 have e1 : litsOf Rows.laid_isthmus_blake_orders = xs.map (·.1) := by
  have := congrArg Prod.fst hx
  simp only at this
  rw [this]
  rfl
 intro i hi
 rw [World.var?_cell glA hvar i]
 obtain ⟨a, ha⟩ : ∃ a, a = i / 16 := ⟨_, rfl⟩
 obtain ⟨b, hb⟩ : ∃ b, b = i % 16 := ⟨_, rfl⟩
 have hi3 : i = a * 16 + b := by omega
 have ha1 : a < 10 := by omega
 have hb1 : b < 16 := by omega
 have h1 := hat a ha1
 rw [clEA, List.getElem?_eq_getElem (by omega)] at h1
 have h3 := litsA a ha1 b hb1
 rw [e1, List.getElem?_map, List.getElem?_eq_getElem (l := xs) (i := a) (by omega), Option.map_some, Option.getD_some] at h3
 generalize xs[a] = xa at h1 h3
 obtain ⟨ys, m2, _, hy, hlen2, hyl, hat2⟩ := DataW.trod_array Tryz.underlying228 h1
 have e2 : litsOf xa.1 = ys.map (·.1) := by rw [hy]; rfl
 have h4 := hat2 b hb1
 have hl2 : cs.size = 160 := by simpa using hl160
 have hi2 : b < (List.take 16 (List.drop (a * 16) cs.toList)).length := by simp; omega
 rw [clCA, Nat.mul_one, List.drop_eq_getElem_cons hi2, List.take_succ_cons, List.take_zero, List.getElem?_eq_getElem (by omega)] at h4
 obtain ⟨n, hc, hy2⟩ := int_of_trod Tryz.underlying5 h4
 rw [e2, List.getElem?_map, List.getElem?_eq_getElem (l := ys) (i := b) (by omega), hy2] at h3
 simp at h3
 subst h3
 have e5 : cs.toList[i]? = some (List.take 16 (List.drop (a * 16) cs.toList))[b] := by
  rw [← List.getElem?_eq_getElem hi2, List.getElem?_take_of_lt hb1, List.getElem?_drop, hi3]
 rw [← Array.getElem?_toList, e5, hc, hi3]
theorem glB : Tryz.prog.globalNamed "isthmus/chacha.turns" = some 2 := by kernel_rfl
theorem glTB : (Tryz.prog.globals[2]?).map (·.type) = some 248 := by kernel_rfl
theorem clCB : Tryz.prog.cellsOf 3 = 1 := by kernel_rfl
theorem clEB : Tryz.prog.cellsOf 247 = 2 := by kernel_rfl
theorem litsB : ∀ a, a < 2 → ∀ b, b < 2 → (litsOf (((litsOf Rows.laid_isthmus_chacha_turns)[a]?).getD .nil))[b]? = some (.lit (.int .i64 (TF (a * 2 + b)))) := by
 have h : ((List.range 2).all fun a => (List.range 2).all fun b => match (litsOf (((litsOf Rows.laid_isthmus_chacha_turns)[a]?).getD .nil))[b]? with | some (.lit (.int .i64 n)) => n == (TF (a * 2 + b) : Int) | _ => false) = true := by decide +kernel
 intro a ha b hb
 have h1 := List.all_eq_true.1 h a (List.mem_range.2 ha)
 have h2 := List.all_eq_true.1 h1 b (List.mem_range.2 hb)
 split at h2
 ·rename_i n e
  rw [e, eq_of_beq h2]
 ·cases h2
theorem layB {W : World} {cs : Array Value} {fuel : Nat} {p : List MemPlace} (hvar : W.var? Tryz.prog "isthmus/chacha.turns" = some cs) (hd : DataW.trod (fun _ => ()) Tryz.prog W 0 (fun _ => true) false fuel 248 cs.toList = some (Rows.laid_isthmus_chacha_turns, p)) : ∀ i, i < 4 → W.cell? ⟨2, i, none⟩ = some (.int .i64 (TF i)) := by
 obtain ⟨xs, m, _, hx, hlen, hxl, hat⟩ := DataW.trod_array Tryz.underlying248 hd
 have hl160 : cs.toList.length = 4 := hlen.trans (by kernel_rfl)
 have e1 : litsOf Rows.laid_isthmus_chacha_turns = xs.map (·.1) := by
  have := congrArg Prod.fst hx
  simp only at this
  rw [this]
  rfl
 intro i hi
 rw [World.var?_cell glB hvar i]
 obtain ⟨a, ha⟩ : ∃ a, a = i / 2 := ⟨_, rfl⟩
 obtain ⟨b, hb⟩ : ∃ b, b = i % 2 := ⟨_, rfl⟩
 have hi3 : i = a * 2 + b := by omega
 have ha1 : a < 2 := by omega
 have hb1 : b < 2 := by omega
 have h1 := hat a ha1
 rw [clEB, List.getElem?_eq_getElem (by omega)] at h1
 have h3 := litsB a ha1 b hb1
 rw [e1, List.getElem?_map, List.getElem?_eq_getElem (l := xs) (i := a) (by omega), Option.map_some, Option.getD_some] at h3
 generalize xs[a] = xa at h1 h3
 obtain ⟨ys, m2, _, hy, hlen2, hyl, hat2⟩ := DataW.trod_array Tryz.underlying247 h1
 have e2 : litsOf xa.1 = ys.map (·.1) := by rw [hy]; rfl
 have h4 := hat2 b hb1
 have hl2 : cs.size = 4 := by simpa using hl160
 have hi2 : b < (List.take 2 (List.drop (a * 2) cs.toList)).length := by simp; omega
 rw [clCB, Nat.mul_one, List.drop_eq_getElem_cons hi2, List.take_succ_cons, List.take_zero, List.getElem?_eq_getElem (by omega)] at h4
 obtain ⟨n, hc, hy2⟩ := int_of_trod Tryz.underlying3 h4
 rw [e2, List.getElem?_map, List.getElem?_eq_getElem (l := ys) (i := b) (by omega), hy2] at h3
 simp at h3
 subst h3
 have e5 : cs.toList[i]? = some (List.take 2 (List.drop (a * 2) cs.toList))[b] := by
  rw [← List.getElem?_eq_getElem hi2, List.getElem?_take_of_lt hb1, List.getElem?_drop, hi3]
 rw [← Array.getElem?_toList, e5, hc, hi3]
theorem laid_of {W : World} (h0 : laidMetH Tryz.prog lay6 W) : Laid W := by
 have h : laidMet Tryz.prog lay6 W := h0
 obtain ⟨ps, ⟨g, t, cs, fuel, p, q, hg, ht, hvar, hd, ⟨g2, t2, c2, f2, p2, q2, hg2, ht2, hv2, hd2, _, _⟩, _⟩, _⟩ := h
 obtain rfl := Option.some.inj (glA.symm.trans hg)
 obtain rfl := Option.some.inj (glTA.symm.trans ht)
 obtain rfl := Option.some.inj (glB.symm.trans hg2)
 obtain rfl := Option.some.inj (glTB.symm.trans ht2)
 exact ⟨layA hvar hd, layB hv2 hd2⟩
theorem lay_witness (os : Os) (args : Array Value) : laidMetH Tryz.prog lay6 ((World.laidAll Tryz.prog os lay6).forCall (fun _ _ => 0) ⟨#[], args, []⟩).memory := laidMet_laidAll (laid := lay6) args (by kernel_rfl) (by kernel_rfl)
end Go.Proofs.YtiahdbibeleakaaGreatDoor
