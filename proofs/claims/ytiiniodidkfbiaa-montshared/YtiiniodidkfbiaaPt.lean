/- Numbers and points of the program as rows of words; loads of a row's part in a region that draws its order. -/
import Derived.Test.YtiiniodidkfbiaaFloatB
import Derived.Test.YtiiniodidkfbiaaInvN
import Derived.Test.YtiiniodidkfbiaaRneg
import Derived.Test.YtiiniodidkfbiaaSame
import Derived.Test.YtiiniodidkfbiaaOfB
namespace Go.Proofs.Ytiiniodidkfbiaa
open Go.RowKit

/-- A number's words, by their places. -/
def E5.f (x : E5) : Nat → Int := fun i => [x.a, x.b, x.c, x.d, x.e].getD i 0
theorem E5.vf (x : E5) : x.v = .agg (arr 5 x.f) := rfl
/-- A point's words. -/
def pj (x z : Nat → Int) : Nat → Int := fun i => if i < 5 then x i else z (i - 5)

theorem arr_toList_get (n : Nat) (f : Nat → Int) (j : Nat) (v : Value) (h : (arr n f).toList[j]? = some v) : j < n ∧ v = .int .u64 (f j) := by
  have hj : j < n := by
    have := (List.getElem?_eq_some_iff.1 h).1
    simpa [arr_size] using this
  refine ⟨hj, ?_⟩
  have h2 := arr_get n f j hj
  rw [Array.getElem?_toList] at h
  rw [h2] at h
  exact (Option.some.inj h).symm

theorem Row.range {W : World} {g : Nat} {T : TypeId} {n : Nat} {f : Nat → Int} (h : Row W g T n f) (o k : Nat) (f' : Nat → Int) (hok : o + k ≤ n) (he : ∀ i, i < k → f (o + i) = f' i) : W.rangeAt g o (arr k f').toList := by
  intro j v hv
  obtain ⟨hj, rfl⟩ := arr_toList_get k f' j v hv
  rw [h.cell (by omega), he j hj]

theorem Row.px {W : World} {g : Nat} {x z : Nat → Int} (h : Row W g 54 10 (pj x z)) : W.rangeAt g 0 (arr 5 x).toList :=
  h.range 0 5 x (by omega) fun i hi => by simp [pj, hi]
theorem Row.pz {W : World} {g : Nat} {x z : Nat → Int} (h : Row W g 54 10 (pj x z)) : W.rangeAt g 5 (arr 5 z).toList :=
  h.range 5 5 z (by omega) fun i hi => by
    unfold pj
    rw [if_neg (by omega), show 5 + i - 5 = i by omega]
theorem Row.all {W : World} {g : Nat} {T : TypeId} {n : Nat} {f : Nat → Int} (h : Row W g T n f) : W.rangeAt g 0 (arr n f).toList :=
  h.range 0 n f (by omega) fun i _ => by rw [Nat.zero_add]

theorem info41 : (Try.prog.info? 41).map (·.size) = some 5 := by kernel_rfl
theorem info54 : (Try.prog.info? 54).map (·.size) = some 10 := by kernel_rfl
theorem inf41 (f : Nat → Int) : (Try.prog.info? 41).map (·.size) = some (arr 5 f).size := by rw [arr_size]; kernel_rfl
theorem inf54 (f : Nat → Int) : (Try.prog.info? 54).map (·.size) = some (arr 10 f).size := by rw [arr_size]; kernel_rfl
theorem inf55 (f : Nat → Int) : (Try.prog.info? 55).map (·.size) = some (arr 20 f).size := by rw [arr_size]; kernel_rfl

section
variable {P : Program} {ops : Array Oper} {W : World} {Q : Act → Prop}

theorem wpK_val {rest : List Oper} {o : Oper} {a : Act} (v : Value) (hgd : o.guard = none) (hrun : ∀ w, (execOp a.eval o).run P w = .ok (.value v) w) (h : wpK P ops W Q rest (a.put o.dst v)) : wpK P ops W Q (o :: rest) a := by
  unfold wpK
  rw [if_pos (by simp [Region.wanted, hgd])]
  refine ⟨v, fun s => ?_, h⟩
  unfold keepAt
  rw [hrun]
  exact ⟨rfl, rfl⟩

theorem wpK_load {rest : List Oper} {o : Oper} {a : Act} (hgd : o.guard = none) (ty : TypeId) (x : Operand) (ho : o.op = .load ty x) (g off : Nat) (hx : a.eval x = .pointer (some ⟨g, off, none⟩)) (k : Nat) (f : Nat → Int)
    (hr : ∀ s : KW W, s.w.rangeAt g off (arr k f).toList) (d : TypeDesc) (hu : P.underlying ty = some d) (hd : d.isRow = true) (hi : (P.info? ty).map (·.size) = some k)
    (h : wpK P ops W Q rest (a.put o.dst (.agg (arr k f)))) : wpK P ops W Q (o :: rest) a := by
  unfold wpK
  rw [if_pos (by simp [Region.wanted, hgd])]
  refine ⟨.agg (arr k f), fun s => ?_, h⟩
  unfold keepAt execOp
  have hl := run_loadAt_mid (P := P) s.w g off ty (arr k f).toList d (hr s) hu hd (by rw [hi]; simp [arr_size])
  simp only [ho, hx, Sem.run_bind, hl, Result.andThen_ok, Sem.run_pure]
  exact ⟨rfl, by simp⟩

theorem wpK_call {rest : List Oper} {o : Oper} {a : Act} (f : FuncId) (args : Array Value) (v : Value) (hgd : o.guard = none) (hrun : ∀ w, (execOp a.eval o).run P w = .ok (.enter f args) w)
    (hc : ∀ w, Calls P f args w fun e w' => e = .returned v ∧ Below w.heap.size w w') (h : wpK P ops W Q rest (a.put o.dst v)) : wpK P ops W Q (o :: rest) a := by
  unfold wpK
  rw [if_pos (by simp [Region.wanted, hgd])]
  refine ⟨v, fun s => ?_, h⟩
  unfold keepAt
  rw [hrun]
  exact ⟨rfl, hc s.w⟩
end

theorem results_two {P : Program} {fn : Func} {p q : Tmp} {ty tz : TypeId} (h : fn.results = #[.cell p ty, .cell q tz]) (tmps : Array Value) (w : World) (g k : Nat) (t t' : TypeId) (cs cs' : Array Value) (fr fr' : Nat × Nat) (d d' : TypeDesc)
    (hp : tmps.getD p undef = .pointer (some ⟨g, 0, none⟩)) (hq : tmps.getD q undef = .pointer (some ⟨k, 0, none⟩)) (hg : w.heap[g]? = some (.cells cs t fr)) (hk : w.heap[k]? = some (.cells cs' t' fr'))
    (hu : P.underlying ty = some d) (hd : (match d with | .struct _ | .array _ _ => true | _ => false) = true) (hi : (P.info? ty).map (·.size) = some cs.size)
    (hu' : P.underlying tz = some d') (hd' : (match d' with | .struct _ | .array _ _ => true | _ => false) = true) (hi' : (P.info? tz).map (·.size) = some cs'.size) :
    (results fn tmps).run P w = .ok (.tuple #[.agg cs, .agg cs']) w := by
  have hp' : tmps[p]?.getD undef = .pointer (some ⟨g, 0, none⟩) := by simpa using hp
  have hq' : tmps[q]?.getD undef = .pointer (some ⟨k, 0, none⟩) := by simpa using hq
  simp [results, h, hp', hq', asAddr, run_loadVar_row w g t ty cs fr d hg hu hd hi, run_loadVar_row w k t' tz cs' fr' d' hk hu' hd' hi']

end Go.Proofs.Ytiiniodidkfbiaa
