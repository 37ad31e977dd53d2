/- Part 15 of the walks and facts. -/
import Derived.Test.YtffimigpbcilbaaGreatDoorCnDef
import Derived.Test.YtffimigpbcilbaaGreatDoorCn12
import Derived.Carry
import Derived.Lay
import Derived.OpenShut
import Derived.ProofKit
import Derived.ShutString
import Derived.SizedLaws
import Derived.Test.YtffimigpbcilbaaGreatDoorTie
set_option maxHeartbeats 16000000
set_option maxRecDepth 100000
namespace Go.Proofs.YtffimigpbcilbaaGreatDoor
open Go.RowKit
def lay6 : List (String × DataW Unit) := [("isthmus/blake.orders", Rows.laid_isthmus_blake_orders), ("isthmus/chacha.turns", Rows.laid_isthmus_chacha_turns)]
theorem int_of_trod {H : Type} {enc : TypeId × Value → H} {P : Program} {w : World} {base : Nat} {sp : Nat → Bool} {held : Bool} {fuel : Nat} {t : TypeId} {k : IntKind} {c : Value} {y : DataW H × List MemPlace}
  (ht : P.underlying t = some (.int k)) (h : DataW.trod enc P w base sp held fuel t [c] = some y) : ∃ n, c = .int k n ∧ y = (.lit (.int k n), []) := by
 cases fuel with
 | zero => simp [DataW.trod] at h
 | succ fuel =>
  cases c <;> simp [DataW.trod, ht] at h
  rename_i k' n
  obtain ⟨⟨rfl, _⟩, rfl⟩ := h
  exact ⟨n, rfl, rfl⟩
def litsOf : DataW Unit → List (DataW Unit)
 | .agg l => l
 | _ => []
theorem glA : Tryz.prog.globalNamed "isthmus/blake.orders" = some 0 := by kernel_rfl
theorem glTA : (Tryz.prog.globals[0]?).map (·.type) = some 215 := by kernel_rfl
theorem clCA : Tryz.prog.cellsOf 5 = 1 := by kernel_rfl
theorem clEA : Tryz.prog.cellsOf 214 = 16 := by kernel_rfl
theorem litsA : ∀ a, a < 10 → ∀ b, b < 16 → (litsOf (((litsOf Rows.laid_isthmus_blake_orders)[a]?).getD .nil))[b]? = some (.lit (.int .u8 (OF (a * 16 + b)))) := by
 have h : ((List.range 10).all fun a => (List.range 16).all fun b => match (litsOf (((litsOf Rows.laid_isthmus_blake_orders)[a]?).getD .nil))[b]? with | some (.lit (.int .u8 n)) => n == (OF (a * 16 + b) : Int) | _ => false) = true := by decide +kernel
 intro a ha b hb
 have h1 := List.all_eq_true.1 h a (List.mem_range.2 ha)
 have h2 := List.all_eq_true.1 h1 b (List.mem_range.2 hb)
 split at h2
 ·rename_i n e
  rw [e, eq_of_beq h2]
 ·cases h2
theorem layA {W : World} {cs : Array Value} {fuel : Nat} {p : List MemPlace} (hvar : W.var? Tryz.prog "isthmus/blake.orders" = some cs) (hd : DataW.trod (fun _ => ()) Tryz.prog W 0 (fun _ => true) false fuel 215 cs.toList = some (Rows.laid_isthmus_blake_orders, p)) : ∀ i, i < 160 → W.cell? ⟨0, i, none⟩ = some (.int .u8 (OF i)) := by
 obtain ⟨xs, m, _, hx, hlen, hxl, hat⟩ := DataW.trod_array Tryz.underlying215 hd
 have hl160 : cs.toList.length = 160 := hlen.trans (by kernel_rfl)
 have e1 : litsOf Rows.laid_isthmus_blake_orders = xs.map (·.1) := by
  have := congrArg Prod.fst hx
  simp only at this
  rw [this]
  rfl
 intro i hi
 rw [World.var?_cell glA hvar i]
 obtain ⟨a, ha⟩ : ∃ a, a = i / 16 := ⟨_, rfl⟩
 obtain ⟨b, hb⟩ : ∃ b, b = i % 16 := ⟨_, rfl⟩
 have hi3 : i = a * 16 + b := by omega
 have ha1 : a < 10 := by omega
 have hb1 : b < 16 := by omega
 have h1 := hat a ha1
 rw [clEA, List.getElem?_eq_getElem (by omega)] at h1
 have h3 := litsA a ha1 b hb1
 rw [e1, List.getElem?_map, List.getElem?_eq_getElem (l := xs) (i := a) (by omega), Option.map_some, Option.getD_some] at h3
 generalize xs[a] = xa at h1 h3
 obtain ⟨ys, m2, _, hy, hlen2, hyl, hat2⟩ := DataW.trod_array Tryz.underlying214 h1
 have e2 : litsOf xa.1 = ys.map (·.1) := by rw [hy]; rfl
 have h4 := hat2 b hb1
 have hl2 : cs.size = 160 := by simpa using hl160
 have hi2 : b < (List.take 16 (List.drop (a * 16) cs.toList)).length := by simp; omega
 rw [clCA, Nat.mul_one, List.drop_eq_getElem_cons hi2, List.take_succ_cons, List.take_zero, List.getElem?_eq_getElem (by omega)] at h4
 obtain ⟨n, hc, hy2⟩ := int_of_trod Tryz.underlying5 h4
 rw [e2, List.getElem?_map, List.getElem?_eq_getElem (l := ys) (i := b) (by omega), hy2] at h3
 simp at h3
 subst h3
 have e5 : cs.toList[i]? = some (List.take 16 (List.drop (a * 16) cs.toList))[b] := by
  rw [← List.getElem?_eq_getElem hi2, List.getElem?_take_of_lt hb1, List.getElem?_drop, hi3]
 rw [← Array.getElem?_toList, e5, hc, hi3]
theorem glB : Tryz.prog.globalNamed "isthmus/chacha.turns" = some 2 := by kernel_rfl
theorem glTB : (Tryz.prog.globals[2]?).map (·.type) = some 242 := by kernel_rfl
theorem clCB : Tryz.prog.cellsOf 3 = 1 := by kernel_rfl
theorem clEB : Tryz.prog.cellsOf 241 = 2 := by kernel_rfl
theorem litsB : ∀ a, a < 2 → ∀ b, b < 2 → (litsOf (((litsOf Rows.laid_isthmus_chacha_turns)[a]?).getD .nil))[b]? = some (.lit (.int .i64 (TF (a * 2 + b)))) := by
 have h : ((List.range 2).all fun a => (List.range 2).all fun b => match (litsOf (((litsOf Rows.laid_isthmus_chacha_turns)[a]?).getD .nil))[b]? with | some (.lit (.int .i64 n)) => n == (TF (a * 2 + b) : Int) | _ => false) = true := by decide +kernel
 intro a ha b hb
 have h1 := List.all_eq_true.1 h a (List.mem_range.2 ha)
 have h2 := List.all_eq_true.1 h1 b (List.mem_range.2 hb)
 split at h2
 ·rename_i n e
  rw [e, eq_of_beq h2]
 ·cases h2
theorem layB {W : World} {cs : Array Value} {fuel : Nat} {p : List MemPlace} (hvar : W.var? Tryz.prog "isthmus/chacha.turns" = some cs) (hd : DataW.trod (fun _ => ()) Tryz.prog W 0 (fun _ => true) false fuel 242 cs.toList = some (Rows.laid_isthmus_chacha_turns, p)) : ∀ i, i < 4 → W.cell? ⟨2, i, none⟩ = some (.int .i64 (TF i)) := by
 obtain ⟨xs, m, _, hx, hlen, hxl, hat⟩ := DataW.trod_array Tryz.underlying242 hd
 have hl160 : cs.toList.length = 4 := hlen.trans (by kernel_rfl)
 have e1 : litsOf Rows.laid_isthmus_chacha_turns = xs.map (·.1) := by
  have := congrArg Prod.fst hx
  simp only at this
  rw [this]
  rfl
 intro i hi
 rw [World.var?_cell glB hvar i]
 obtain ⟨a, ha⟩ : ∃ a, a = i / 2 := ⟨_, rfl⟩
 obtain ⟨b, hb⟩ : ∃ b, b = i % 2 := ⟨_, rfl⟩
 have hi3 : i = a * 2 + b := by omega
 have ha1 : a < 2 := by omega
 have hb1 : b < 2 := by omega
 have h1 := hat a ha1
 rw [clEB, List.getElem?_eq_getElem (by omega)] at h1
 have h3 := litsB a ha1 b hb1
 rw [e1, List.getElem?_map, List.getElem?_eq_getElem (l := xs) (i := a) (by omega), Option.map_some, Option.getD_some] at h3
 generalize xs[a] = xa at h1 h3
 obtain ⟨ys, m2, _, hy, hlen2, hyl, hat2⟩ := DataW.trod_array Tryz.underlying241 h1
 have e2 : litsOf xa.1 = ys.map (·.1) := by rw [hy]; rfl
 have h4 := hat2 b hb1
 have hl2 : cs.size = 4 := by simpa using hl160
 have hi2 : b < (List.take 2 (List.drop (a * 2) cs.toList)).length := by simp; omega
 rw [clCB, Nat.mul_one, List.drop_eq_getElem_cons hi2, List.take_succ_cons, List.take_zero, List.getElem?_eq_getElem (by omega)] at h4
 obtain ⟨n, hc, hy2⟩ := int_of_trod Tryz.underlying3 h4
 rw [e2, List.getElem?_map, List.getElem?_eq_getElem (l := ys) (i := b) (by omega), hy2] at h3
 simp at h3
 subst h3
 have e5 : cs.toList[i]? = some (List.take 2 (List.drop (a * 2) cs.toList))[b] := by
  rw [← List.getElem?_eq_getElem hi2, List.getElem?_take_of_lt hb1, List.getElem?_drop, hi3]
 rw [← Array.getElem?_toList, e5, hc, hi3]
theorem laid_of {W : World} (h0 : laidMetH Tryz.prog lay6 W) : Laid W := by
 have h : laidMet Tryz.prog lay6 W := h0
 obtain ⟨ps, ⟨g, t, cs, fuel, p, q, hg, ht, hvar, hd, ⟨g2, t2, c2, f2, p2, q2, hg2, ht2, hv2, hd2, _, _⟩, _⟩, _⟩ := h
 obtain rfl := Option.some.inj (glA.symm.trans hg)
 obtain rfl := Option.some.inj (glTA.symm.trans ht)
 obtain rfl := Option.some.inj (glB.symm.trans hg2)
 obtain rfl := Option.some.inj (glTB.symm.trans ht2)
 exact ⟨layA hvar hd, layB hv2 hd2⟩
theorem lay_witness (os : Os) (args : Array Value) : laidMetH Tryz.prog lay6 ((World.laidAll Tryz.prog os lay6).forCall (fun _ _ => 0) ⟨#[], args, []⟩).memory := laidMet_laidAll (laid := lay6) args (by kernel_rfl) (by kernel_rfl)
open Go.ChangeShapes Go.WideShapes Go.ChangeAt Go.RowKit
theorem laidOut : laidOutB Tryz.prog = true := by kernel_rfl
section
variable {W : World} {b0 : Nat} {v : Value}
theorem cell_str (h : Cell.okWide Tryz.prog W .any b0 9 v) : ∃ s, v = .string s := by
 simp only [Cell.okWide, Tryz.underlying9] at h
 cases v <;> simp_all [Cell.ok, Tryz.underlying9]
theorem op9 (h : Value.okWide Tryz.prog W .any b0 9 v) : ∃ s, v = .string s := by
 simp only [Value.okWide, Tryz.underlying9] at h
 exact cell_str h
theorem row_av (cs : Array Value) (l : List Value) (hs : cs.size = l.length) (h : ∀ i, i < l.length → cs[i]? = l[i]?) : cs = av l.length (ls l) := by
 apply Array.ext_getElem?
 intro i
 by_cases hi : i < l.length
 ·rw [h i hi, av_get _ _ _ hi]
  unfold ls
  rw [getD_app, List.getElem?_eq_getElem hi]
  rfl
 ·rw [Array.getElem?_eq_none (by omega), Array.getElem?_eq_none (by rw [av_size]; omega)]
end
theorem row_cells {W : World} {b0 : Nat} {t : TypeId} {v : Value} {fs : Array Field} {ts : List TypeId} (ht : Tryz.prog.underlying t = some (.struct fs)) (hc : Tryz.prog.cellTypes Tryz.prog.depth t = some ts) (hn : Tryz.prog.cellsOf t = ts.length) (h : Value.okWide Tryz.prog W .any b0 t v) : ∃ cs, v = .agg cs ∧ cs.size = ts.length ∧ ∀ (i : Nat) (u : TypeId), ts[i]? = some u → ∃ x, cs[i]? = some x ∧ Cell.okWide Tryz.prog W .any b0 u x := by
 simp only [Value.okWide, ht] at h
 obtain ⟨cs, rfl, h2, ts2, h3, _, h4⟩ := h
 rw [hc] at h3
 cases h3
 refine ⟨cs, rfl, by omega, fun i u hu => ?_⟩
 have hi := (List.getElem?_eq_some_iff.1 hu).1
 obtain ⟨u2, hu2, hx⟩ := h4 i cs[i] (Array.getElem?_eq_getElem (by omega))
 rw [Nat.mod_eq_of_lt hi, hu] at hu2
 cases hu2
 exact ⟨cs[i], Array.getElem?_eq_getElem (by omega), hx⟩
theorem op23 {W : World} {b0 : Nat} {v : Value} (h : Value.okWide Tryz.prog W .any b0 23 v) : ∃ ra rb re rf rp ro rt, v = .agg (av 7 (ls [.string ra, .string rb, .string re, .string rf, .string rp, .string ro, .string rt])) := by
 obtain ⟨cs, rfl, hs, hc⟩ := row_cells (ts := [9, 9, 9, 9, 9, 9, 9]) Tryz.underlying23 (by kernel_rfl) (by kernel_rfl) h
 obtain ⟨x0, e0, o0⟩ := hc 0 9 rfl
 obtain ⟨ra, rfl⟩ := cell_str o0
 obtain ⟨x1, e1, o1⟩ := hc 1 9 rfl
 obtain ⟨rb, rfl⟩ := cell_str o1
 obtain ⟨x2, e2, o2⟩ := hc 2 9 rfl
 obtain ⟨re, rfl⟩ := cell_str o2
 obtain ⟨x3, e3, o3⟩ := hc 3 9 rfl
 obtain ⟨rf, rfl⟩ := cell_str o3
 obtain ⟨x4, e4, o4⟩ := hc 4 9 rfl
 obtain ⟨rp, rfl⟩ := cell_str o4
 obtain ⟨x5, e5, o5⟩ := hc 5 9 rfl
 obtain ⟨ro, rfl⟩ := cell_str o5
 obtain ⟨x6, e6, o6⟩ := hc 6 9 rfl
 obtain ⟨rt, rfl⟩ := cell_str o6
 refine ⟨ra, rb, re, rf, rp, ro, rt, congrArg Value.agg (row_av cs [.string ra, .string rb, .string re, .string rf, .string rp, .string ro, .string rt] hs fun i hi => ?_)⟩
 rcases i with _ | _ | _ | _ | _ | _ | _ | i
 ·exact e0
 ·exact e1
 ·exact e2
 ·exact e3
 ·exact e4
 ·exact e5
 ·exact e6
 ·exact absurd hi (by simp)
theorem wt_str {H : Type} (P : Program) (t : TypeId) (ts : List TypeId) (s : Yb) (r : List (DataW H)) (h : (DataW.weightsEach P (t :: ts) (.lit (.string s.data.toList) :: r)).all (· ≤ reachBytes) = true) : s.size ≤ 140737488351232 ∧ (DataW.weightsEach P ts r).all (· ≤ reachBytes) = true := by
 simp only [DataW.weightsEach, DataW.weights, List.all_append, Bool.and_eq_true, List.all_cons, List.all_nil, reachBytes, Bool.and_true] at h
 refine ⟨?_, h.2⟩
 have h1 := of_decide_eq_true h.1
 have e : s.data.toList.length = s.size := rfl
 omega
theorem wt_cons {H : Type} (P : Program) (t : TypeId) (ts : List TypeId) (d : DataW H) (r : List (DataW H)) (h : (DataW.weightsEach P (t :: ts) (d :: r)).all (· ≤ reachBytes) = true) : (d.weights P t).all (· ≤ reachBytes) = true ∧ (DataW.weightsEach P ts r).all (· ≤ reachBytes) = true := by
 simp only [DataW.weightsEach, List.all_append, Bool.and_eq_true] at h
 exact h
theorem wt_at {H : Type} (P : Program) : ∀ (ts : List TypeId) (ds : List (DataW H)) (i : Nat) (t : TypeId) (s : Yb), ts[i]? = some t → ds[i]? = some (.lit (.string s.data.toList)) → (DataW.weightsEach P ts ds).all (· ≤ reachBytes) = true → s.size ≤ 140737488351232
 | t :: ts, d :: ds, 0, t', s, _, hd, h => by
  simp only [List.getElem?_cons_zero, Option.some.injEq] at hd
  subst hd
  exact (wt_str P t ts s ds h).1
 | t :: ts, d :: ds, i + 1, t', s, ht, hd, h => by
  simp only [List.getElem?_cons_succ] at ht hd
  exact wt_at P ts ds i t' s ht hd (wt_cons P t ts d ds h).2
 | [], _, _, _, _, ht, _, _ => by simp at ht
 | _ :: _, [], _, _, _, _, hd, _ => by simp at hd
theorem wt_run {H : Type} {enc : TypeId × Value → H} {W : World} {b0 : Nat} {sp : Nat → Bool} {hd : Bool} {ra rb re rf rp ro rt : Yb} {d : DataW H} {p : List MemPlace} {ts : List TypeId} {r : List (DataW H)} (h : DataW.Trod enc Tryz.prog W b0 sp hd 23 (.agg (av 7 (ls [.string ra, .string rb, .string re, .string rf, .string rp, .string ro, .string rt]))) d p) (hw : (DataW.weightsEach Tryz.prog (23 :: ts) (d :: r)).all (· ≤ reachBytes) = true) : ra.size + rb.size + re.size + rf.size + rp.size + ro.size + rt.size < 4611686018427387904 ∧ (DataW.weightsEach Tryz.prog ts r).all (· ≤ reachBytes) = true := by
 obtain ⟨h1, h2⟩ := wt_cons _ _ _ _ _ hw
 refine ⟨?_, h2⟩
 obtain ⟨fuel, h⟩ := h
 obtain ⟨xs, n, _, hx, _, hlen, hf⟩ := DataW.trod_struct Tryz.underlying23 h
 have h7 : xs.length = 7 := hlen
 have hx1 := congrArg Prod.fst hx
 simp only at hx1
 subst hx1
 have hws : (DataW.weightsEach Tryz.prog [9, 9, 9, 9, 9, 9, 9] (xs.map (·.1))).all (· ≤ reachBytes) = true := by
  unfold DataW.weights at h1
  rw [Tryz.underlying23] at h1
  exact h1
 have key : ∀ (i : Nat) (s : Yb), ([9, 9, 9, 9, 9, 9, 9] : List TypeId)[i]? = some 9 → DataW.trod enc Tryz.prog W b0 sp hd n 9 [.string s] = xs[i]? → s.size ≤ 140737488351232 := fun i s ht he => by
  cases hxi : xs[i]? with
  | none =>
   rw [hxi] at he
   have hl : i < xs.length := by
    have := (List.getElem?_eq_some_iff.1 ht).1
    simp at this
    omega
   rw [List.getElem?_eq_getElem hl] at hxi
   cases hxi
  | some y =>
   rw [hxi] at he
   obtain ⟨s', e1, e2, _⟩ := DataW.trod_string Tryz.underlying9 he
   simp only [List.cons.injEq, Value.string.injEq, and_true] at e1
   subst e1
   exact wt_at _ _ _ i 9 s ht (by rw [List.getElem?_map, hxi, e2]; rfl) hws
 have k0 := key 0 ra rfl (hf 0 _ rfl)
 have k1 := key 1 rb rfl (hf 1 _ rfl)
 have k2 := key 2 re rfl (hf 2 _ rfl)
 have k3 := key 3 rf rfl (hf 3 _ rfl)
 have k4 := key 4 rp rfl (hf 4 _ rfl)
 have k5 := key 5 ro rfl (hf 5 _ rfl)
 have k6 := key 6 rt rfl (hf 6 _ rfl)
 omega
end Go.Proofs.YtffimigpbcilbaaGreatDoor
