/- Functions that return or panic. -/
import Derived.Test.YtlfekknonjlopaaXQ
namespace Go.Proofs.Ytlfekknonjlopaa
open Go.RowKit
set_option linter.unusedVariables false
set_option linter.unusedSimpArgs false

structure Out where
  pan : Bool
  J : List It
  N : List It
  v : SV
def oR (J N : List It) (v : SV) : Out := ⟨false, J, N, v⟩
def oP (v : SV) : Out := ⟨true, [], [], v⟩
def Bu {P : Program} (S : Seat P) (fn : Func) (w0 : World) (E0 : Nat → Ent) (R I : List It) (o : Out) : Exit → Act → World → Prop := match o.pan with
  | true => BkP S fn w0 E0 (R ++ I) o.v
  | false => Bk S fn w0 E0 R I o.J o.N o.v
/-- A call of f, as o tells. -/
def Cu {P : Program} (S : Seat P) (C : World → Prop) (f : FuncId) (xs : List SV) (R I : List It) (o : Out) : Prop := match o.pan with
  | true => CtP S C f xs (R ++ I) o.v
  | false => Ct S C f xs R I o.J o.N o.v
theorem Cu.ret {P : Program} {S : Seat P} {C : World → Prop} {f : FuncId} {xs : List SV} {R I J N : List It} {v : SV} {o : Out} (h : Cu S C f xs R I o) (e : o = oR J N v) : Ct S C f xs R I J N v := by subst e; exact h
theorem Cu.pan {P : Program} {S : Seat P} {C : World → Prop} {f : FuncId} {xs : List SV} {R I : List It} {v : SV} {o : Out} (h : Cu S C f xs R I o) (e : o = oP v) : CtP S C f xs (R ++ I) v := by subst e; exact h
theorem xInU {P : Program} {S : Seat P} {C : World → Prop} {f : FuncId} {xs : List SV} {R I : List It} {o : Out} (fn : Func)
    (h : ∀ (E0 : Nat → Ent) (w0 : World), S.laid w0 → (∀ w', Mem S ⟨w0, (denP E0 (ix 0 (R ++ I))).map Blk.g⟩ [] w' → C w') → okP E0 (ix 0 (R ++ I)) → OK S ⟨w0, (denP E0 (ix 0 (R ++ I))).map Blk.g⟩ E0 (R ++ I).length (Bu S fn w0 E0 R I o) [frC (fn.body.getD .skip)] ⟨xs ++ List.replicate (fn.ntmps - xs.length) (vV undef), R ++ I⟩)
    (hf : P.funcs[f]? = some fn := by kernel_rfl) (hb : fn.body = some (fn.body.getD .skip) := by kernel_rfl) (he : (fun (args : Array Value) (w : World) => (callFunc f args).run P w) = fun args w => .ok (.enter f args) w := by kernel_rfl)
    (hx : (xs.all (SV.al (isLt (R ++ I).length)) && (R ++ I).all (It.al (isLt (R ++ I).length))) = true := by kernel_rfl) : Cu S C f xs R I o := by
  obtain ⟨p, J, N, v⟩ := o
  cases p with
  | true => exact xInP fn h hf hb he hx
  | false => exact xIn fn h hf hb he hx
section
variable {P : Program} {S : Seat P} {c : Ctx} {E0 : Nat → Ent} {n : Nat} {K : List Fr} {s : St} {fn : Func} {w0 : World} {R I : List It} {o : Out}
theorem xUo {o' : Out} (e : o = o') (k : OK S c E0 n (Bu S fn w0 E0 R I o') K s) : OK S c E0 n (Bu S fn w0 E0 R I o) K s := by subst e; exact k
theorem xUr {J N : List It} {v : SV} (e : o = oR J N v) (k : OK S c E0 n (Bk S fn w0 E0 R I J N v) K s) : OK S c E0 n (Bu S fn w0 E0 R I o) K s := by subst e; exact k
theorem xUp {v : SV} (e : o = oP v) (k : OK S c E0 n (BkP S fn w0 E0 (R ++ I) v) K s) : OK S c E0 n (Bu S fn w0 E0 R I o) K s := by subst e; exact k
end
end Go.Proofs.Ytlfekknonjlopaa
