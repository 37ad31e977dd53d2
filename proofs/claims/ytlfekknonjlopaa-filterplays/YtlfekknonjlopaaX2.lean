/- What an operation does, told by its operands, the items that it looks at, those that it changes, those that it makes. -/
import Derived.Test.YtlfekknonjlopaaX1
namespace Go.Proofs.Ytlfekknonjlopaa
open Go.RowKit
set_option linter.unusedVariables false
set_option linter.unusedSimpArgs false

/-- An operation with its operands. k tells which: 0: a call of function n; 1: a builtin; 2: load; 3: store; 4: the place of an element; 5: a part of a slice, a string, an array; 6: an element; 7: a slice that is made; 8: a conversion; 9: what a map has; 10: what it gets; 11: an assertion; 12: a map that is made. -/
structure VO where
  k : Nat
  n : Nat
  e : Nat
  b : Builtin
  ts : List TypeId
  cs : List Bool
  xs : List SV
def oCall (f : FuncId) (xs : List SV) : VO := ⟨0, f, 0, .append, [], [], xs⟩
def oBi (b : Builtin) (ts : List TypeId) (t : TypeId) (cs : List Bool) (xs : List SV) : VO := ⟨1, t, 0, b, ts, cs, xs⟩
def oOp (k n e : Nat) (cs : List Bool) (xs : List SV) : VO := ⟨k, n, e, .append, [], cs, xs⟩
def semV (s : Sem Value) : Sem Next := do pure (.value (← s))
def semU (s : Sem Unit) : Sem Next := do s; pure .skip
def argOf (xs : List Value) (i : Nat) : Value := xs.getD i undef
def optOf (cs : List Bool) (i : Nat) (v : Value) : Option Value := if cs.getD i false then some v else none
def VO.semL (q : VO) (a : List Value) : Sem Next := match q.k with
  | 0 => callFunc q.n a.toArray
  | 1 => builtin q.b q.ts.toArray q.n q.cs.toArray a.toArray
  | 2 => semV (Instr.loadAt q.n (argOf a 0))
  | 3 => semU (Instr.storeAt q.n (argOf a 0) (argOf a 1))
  | 4 => semV (Instr.indexAt q.n (argOf a 0) (argOf a 1))
  | 5 => semV (Instr.sliceAt q.n (argOf a 0) (optOf q.cs 0 (argOf a 1)) (optOf q.cs 1 (argOf a 2)) (optOf q.cs 2 (argOf a 3)))
  | 6 => semV (Instr.index q.n (argOf a 0) (argOf a 1))
  | 7 => semV (Instr.makeSlice q.n (argOf a 0) (argOf a 1))
  | 8 => semV (convert q.n q.e (argOf a 0))
  | 9 => semV (Instr.lookup q.n (argOf a 0) (argOf a 1) (q.cs.getD 0 false))
  | 10 => semU (Instr.mapUpdate q.n (argOf a 0) (argOf a 1) (argOf a 2))
  | 11 => semV (Instr.typeAssert (argOf a 0) q.n q.e (q.cs.getD 0 false))
  | 13 => semV (do eqGuard .eql q.n (.tmp 0) (.tmp 0) (argOf a 0) (argOf a 1); binOp .eql q.n (argOf a 0) (argOf a 1))
  | 14 => semV (do eqGuard .neq q.n (.tmp 0) (.tmp 0) (argOf a 0) (argOf a 1); binOp .neq q.n (argOf a 0) (argOf a 1))
  | 15 => semV (Instr.build q.n (q.ts.zip a).toArray)
  | _ => semV (Instr.makeMap q.n none)
def VO.sem (q : VO) (E : Nat → Ent) : Sem Next := q.semL (q.xs.map (SV.den E))
/-- What an operation is with these operands. -/
def vop (ρ : Operand → SV) (o : Oper) : Option VO := match o.op with
  | .call c => match c.callee with
    | .value f =>
      let s := ρ f
      match s.k with
      | 7 => match s.fn with
        | .func g => if s.l.all SV.isA && s.m.all SV.isA then some (oCall g (s.l ++ c.args.toList.map ρ ++ s.m)) else none
        | _ => none
      | 0 => match s.x with
        | .func (.func g) fi ca => some (oCall g (fi.toList.map vV ++ c.args.toList.map ρ ++ ca.toList.map vV))
        | _ => none
      | _ => none
    | .builtin b => some (oBi b c.argTypes.toList o.type (c.args.toList.map fun | .const _ => true | _ => false) (c.args.toList.map ρ))
    | .invoke _ _ => none
  | .load t a => some (oOp 2 t 0 [] [ρ a])
  | .store t a x => some (oOp 3 t 0 [] [ρ a, ρ x])
  | .indexAddr t x i => some (oOp 4 t 0 [] [ρ x, ρ i])
  | .slice t x lo hi mx => some (oOp 5 t 0 [lo.isSome, hi.isSome, mx.isSome] [ρ x, (lo.map ρ).getD (vV undef), (hi.map ρ).getD (vV undef), (mx.map ρ).getD (vV undef)])
  | .index t x i => some (oOp 6 t 0 [] [ρ x, ρ i])
  | .makeSlice t l c => some (oOp 7 t 0 [] [ρ l, ρ c])
  | .convert s d x => some (oOp 8 s d [] [ρ x])
  | .lookup t x i ok => some (oOp 9 t 0 [ok] [ρ x, ρ i])
  | .mapUpdate t m k x => some (oOp 10 t 0 [] [ρ m, ρ k, ρ x])
  | .insert t m k x => some (oOp 10 t 0 [] [ρ m, ρ k, ρ x])
  | .typeAssert x t a ok => some (oOp 11 t a [ok] [ρ x])
  | .makeMap t none => some (oOp 12 t 0 [] [])
  | .build t ps => some ⟨15, t, 0, .append, ps.toList.map Prod.fst, [], ps.toList.map fun p => ρ p.2⟩
  | .binOp op t x y _ => match (ρ x).k, (ρ y).k, op with
    | 5, 5, .eql => some (oOp 13 t 0 [] [ρ x, ρ y])
    | 5, 5, .neq => some (oOp 14 t 0 [] [ρ x, ρ y])
    | _, _, _ => none
  | _ => none
theorem SV.den5 {s : SV} (h : s.k = 5) (E : Nat → Ent) : s.den E = .agg (s.l.map (SV.denC E)).toArray := by
  simp only [SV.den, SV.denU, h]
theorem vop_run {ρ : Operand → SV} {o : Oper} {q : VO} (h : vop ρ o = some q) (E : Nat → Ent) (P : Program) (w : World) : (execOp (fun x => (ρ x).den E) o).run P w = (q.sem E).run P w := by
  obtain ⟨dst, op, type, pos, after, guard⟩ := o
  cases op <;> simp only [vop] at h <;> try (cases h; done)
  case load t a => cases h; rfl
  case build t ps =>
    cases h
    show (semV (Instr.build t (ps.map fun (i, x) => (i, (ρ x).den E)))).run P w = (semV (Instr.build t (((ps.toList.map Prod.fst).zip ((ps.toList.map fun p => ρ p.2).map (SV.den E))).toArray))).run P w
    congr 3
    apply Array.ext'
    simp only [Array.toList_map, List.map_map]
    generalize ps.toList = l
    induction l with
    | nil => rfl
    | cons p l ih => simp only [List.map_cons, List.zip_cons_cons, ih]; rfl
  case store t a x => cases h; rfl
  case indexAddr t x i => cases h; rfl
  case index t x i => cases h; rfl
  case makeSlice t l c => cases h; rfl
  case convert s d x => cases h; rfl
  case lookup t x i ok => cases h; rfl
  case mapUpdate t m k x => cases h; rfl
  case insert t m k x => cases h; rfl
  case typeAssert x t a ok => cases h; rfl
  case binOp op t x y r =>
    split at h
    · rename_i h1 h2
      cases h
      show _ = (semV _).run P w
      simp only [VO.sem, VO.semL, oOp, argOf, List.map_cons, List.map_nil, List.getD_cons_zero, List.getD_cons_succ, execOp, SV.den5 h1, SV.den5 h2, eqGuard, semV]
    · rename_i h1 h2
      cases h
      show _ = (semV _).run P w
      simp only [VO.sem, VO.semL, oOp, argOf, List.map_cons, List.map_nil, List.getD_cons_zero, List.getD_cons_succ, execOp, SV.den5 h1, SV.den5 h2, eqGuard, semV]
    · cases h
  case makeMap t r =>
    cases r with
    | none => cases h; rfl
    | some r => cases h
  case slice t x lo hi mx =>
    cases h
    cases lo <;> cases hi <;> cases mx <;> rfl
  case call c =>
    obtain ⟨callee, args, argTypes⟩ := c
    cases callee with
    | invoke r m => cases h
    | builtin b =>
      cases h
      have e : args.map (fun x => (ρ x).den E) = (args.toList.map ρ |>.map (SV.den E)).toArray := by
        apply Array.ext'
        simp [Function.comp_def]
      simp only [execOp, resolve, VO.sem, VO.semL, oBi, e]
      simp only [invoke]
      refine congrArg (fun z => (builtin b argTypes type z _).run P w) ?_
      apply Array.ext'
      simp only [Array.toList_map]
      exact List.map_congr_left fun x _ => by cases x <;> rfl
    | value f =>
      simp only at h
      have e : args.map (fun x => (ρ x).den E) = (args.toList.map ρ |>.map (SV.den E)).toArray := by
        apply Array.ext'
        simp [Function.comp_def]
      split at h
      · rename_i hk
        split at h
        · rename_i g hfn
          split at h
          · rename_i hA
            cases h
            simp only [Bool.and_eq_true] at hA
            have hd : (ρ f).den E = .func (.func g) ((ρ f).l.map (SV.denA E)).toArray ((ρ f).m.map (SV.denA E)).toArray := by
              simp only [SV.den, SV.denU, SV.denC, hk, hfn]
            have h1 : (ρ f).l.map (SV.den E) = (ρ f).l.map (SV.denA E) := map_all (fun x hx => (SV.den_A hx E).1) hA.1
            have h2 : (ρ f).m.map (SV.den E) = (ρ f).m.map (SV.denA E) := map_all (fun x hx => (SV.den_A hx E).1) hA.2
            simp only [execOp, resolve, Deferred.ofValue, hd, VO.sem, VO.semL, oCall, e, List.map_append, h1, h2]
            simp [invoke]
          · cases h
        · cases h
      · rename_i hk
        split at h
        · rename_i g fi ca hx
          cases h
          have hd : (ρ f).den E = .func (.func g) fi ca := by
            simp only [SV.den, SV.denU, SV.denC, SV.denA, hk, hx]
          have hv : ∀ l : List Value, (l.map vV).map (SV.den E) = l := fun l => by
            rw [List.map_map]
            exact List.map_id l
          simp only [execOp, resolve, Deferred.ofValue, hd, VO.sem, VO.semL, oCall, e, List.map_append, hv]
          simp only [invoke]
          refine congrArg (fun z => (callFunc g z).run P w) ?_
          apply Array.ext'
          simp
        · cases h
      · cases h

/-- What a run of an operation leads to. -/
def Fin (P : Program) (r : Result Next) (K : Value → World → Prop) : Prop := match r with
  | .ok (.value v) w' => K v w'
  | .ok .skip w' => K undef w'
  | .ok (.enter f xs) w' => Calls P f xs w' fun e w'' => ∃ v, e = .returned v ∧ K v w''
  | _ => False
theorem Fin.mono {P : Program} {r : Result Next} {K K' : Value → World → Prop} (h : Fin P r K) (hk : ∀ v w, K v w → K' v w) : Fin P r K' := by
  unfold Fin at *
  split <;> simp_all only
  exact Calls.mono h fun e w ⟨v, he, hv⟩ => ⟨v, he, hk _ _ hv⟩
theorem Fin.wp {P : Program} {o : Oper} {a : Act} {w : World} {K : Act → World → Prop} {Q : Exit → Act → World → Prop} (h : Fin P ((execOp a.eval o).run P w) fun v w' => K (a.put o.dst v) w') : o.wp P a w K Q := by
  unfold Oper.wp
  generalize (execOp a.eval o).run P w = r at *
  cases r with
  | halt x w' => exact h.elim
  | ok n w' =>
    cases n <;> first | exact h.elim | skip
    case value v => exact h
    case skip => exact h
    case enter f xs => exact Calls.mono h fun e w'' ⟨v, he, hk⟩ => by subst he; exact hk
/-- What becomes of memory and what is handed back: of the items pre become the items post (those of the numbers nw are new), the value is v. C: what is told of the world besides. -/
def LS {P : Program} (S : Seat P) (C : World → Prop) (q : (Nat → Ent) → Sem Next) (pre : List (Nat × It)) (nw : Nat → Bool) (v : SV) (post : List (Nat × It)) : Prop :=
  ∀ (E : Nat → Ent) (w : World), S.laid w → (∀ w', Grw w w' ((denP E pre).map Blk.g) → C w') → There S w (denP E pre) → okP E pre →
    Fin P ((q E).run P w) fun r w' => ∃ E' : Nat → Ent, (∀ i, nw i = false → E' i = E i) ∧ okP E' post ∧ r = v.den E' ∧ OkT w w' (denP E pre) (denP E' post)
/-- Items from a number on. -/
def ix (b : Nat) : List It → List (Nat × It)
  | [] => []
  | x :: l => (b, x) :: ix (b + 1) l
def newAt (b n : Nat) (i : Nat) : Bool := Nat.ble b i && Nat.blt i (b + n)
/-- What is told of an operation by a proof; b: the first number that is free. -/
structure Sp {P : Program} (S : Seat P) (C : World → Prop) (b : Nat) where
  q : VO
  R : List (Nat × It)
  I : List (Nat × It)
  J : List It
  N : List It
  v : SV
  pf : J.length = I.length → (∀ p ∈ R ++ I, p.1 < b) → LS S C q.sem (R ++ I) (newAt b N.length) v (R ++ ((I.map Prod.fst).zip J ++ ix b N))
/-- A word on an operation: what it does; or that the value x, that comes out, is y. -/
structure Dr {P : Program} (S : Seat P) (C : World → Prop) where
  k : Nat
  f : (b : Nat) → Option (Sp S C b)
  x : Value
  y : Value
  e : x = y
def dSp {P : Program} {S : Seat P} {C : World → Prop} (f : (b : Nat) → Sp S C b) : Dr S C := ⟨0, fun b => some (f b), undef, undef, rfl⟩
def dEq {P : Program} {S : Seat P} {C : World → Prop} {x y : Value} (e : x = y) : Dr S C := ⟨1, fun _ => none, x, y, e⟩
/-- What the kernel is asked. -/
structure Tk where
  q : Option VO
  i : List It
  s : List SV
  r : (Nat → Ent) → World → Result Next
  b : (Nat → Ent) → Option Bool
def tkQ (q : Option VO) : Tk := ⟨q, [], [], fun _ w => .halt .blocked w, fun _ => none⟩
def tkI (l : List It) : Tk := ⟨none, l, [], fun _ w => .halt .blocked w, fun _ => none⟩
def tkS (l : List SV) : Tk := ⟨none, [], l, fun _ w => .halt .blocked w, fun _ => none⟩
def tkR (r : (Nat → Ent) → World → Result Next) : Tk := ⟨none, [], [], r, fun _ => none⟩
def tkB (b : (Nat → Ent) → Option Bool) : Tk := ⟨none, [], [], fun _ w => .halt .blocked w, b⟩
/-- What an operation did: value, items looked at, items changed, items made; what is asked, and what it is to be. -/
structure Rs where
  v : SV
  R : List Nat
  W : List (Nat × It)
  N : List It
  A : List Tk
  B : List Tk
def isLt (n : Nat) (i : Nat) : Bool := Nat.blt i n
def asBoolS (s : SV) : Option Bool := match s.k with
  | 0 => match s.x with
    | .bool b => some b
    | _ => none
  | _ => none
def asIntS (s : SV) : Option (IntKind × Int) := match s.k with
  | 0 => match s.x with
    | .int k n => some (k, n)
    | _ => none
  | _ => none
def sizeT (P : Program) (t : TypeId) : Nat := ((P.info? t).map (·.size)).getD 0
def isAggT (P : Program) (t : TypeId) : Bool := match P.underlying t with
  | some d => d.isRow
  | none => false
/-- Nothing known of addresses. -/
def shv (s : SV) : Option Value := match s.k with
  | 0 => some s.x
  | 5 => if s.l.all (fun y => Nat.beq y.k 0) then some (.agg (s.l.map SV.x).toArray) else none
  | 8 => match s.l with
    | [y] => match y.k with
      | 0 => some (.iface s.b y.x)
      | _ => none
    | _ => none
  | 7 => if s.l.all (fun y => Nat.beq y.k 0) && s.m.all (fun y => Nat.beq y.k 0) then some (.func s.fn (s.l.map SV.x).toArray (s.m.map SV.x).toArray) else none
  | _ => none
def partS (P : Program) (t : TypeId) (l : List SV) (off : Nat) : Option SV :=
  if isAggT P t then some (vG ((l.drop off).take (sizeT P t))) else l[off]?
def zeroS (P : Program) (t : TypeId) : List SV := (((P.info? t).bind (·.zero)).getD undef).cells.toList.map vV
def cellsS (s : SV) : List SV := match s.k with
  | 5 => s.l
  | 0 => s.x.cells.toList.map vV
  | _ => [s]
def layS (l : List SV) (o : Nat) (c : List SV) : List SV := l.take o ++ (c ++ l.drop (o + c.length))
def fillS (place : Nat → Option Nat) (cells : List SV) : List (Nat × SV) → Option (List SV)
  | [] => some cells
  | (i, v) :: rest => match place i with
    | none => none
    | some off => fillS place (layS cells off (cellsS v)) rest
/-- The value of an operation that only reckons (what the kernel then holds against the operation itself). -/
def pureS (P : Program) (ρ : Operand → SV) (o : Oper) : Option SV := match o.op with
  | .move x | .assign x => some (ρ x)
  | .pick c a b => match asBoolS (ρ c) with
    | some true => some (ρ a)
    | some false => some (ρ b)
    | none => none
  | .nilCheck x => some (ρ x)
  | .extract t i => match (ρ t).k with
    | 6 => (ρ t).l[i]?
    | _ => none
  | .fieldAddr s x f => match (ρ x).k, P.underlying s with
    | 1, some (.struct fs) => match fs.toList[f]? with
      | some g => some (vP (ρ x).b ((ρ x).o + g.offset))
      | none => none
    | _, _ => none
  | .field s x f => match (ρ x).k, P.underlying s with
    | 5, some (.struct fs) => match fs.toList[f]? with
      | some g => partS P g.type (ρ x).l g.offset
      | none => none
    | _, _ => none
  | .indexAddr t x i => match (ρ x).k, P.underlying t, asIntS (ρ i) with
    | 1, some (.array _ e), some (_, n) => some (vP (ρ x).b ((ρ x).o + n.toNat * sizeT P e))
    | 2, some (.slice e), some (_, n) => some (vP (ρ x).b ((ρ x).o + n.toNat * sizeT P e))
    | _, _, _ => none
  | .index t x i => match (ρ x).k, P.underlying t, asIntS (ρ i) with
    | 5, some (.array _ e), some (_, n) => partS P e (ρ x).l (n.toNat * sizeT P e)
    | _, _, _ => none
  | .slice t x lo hi _ =>
    let l := ((lo.bind fun y => asIntS (ρ y)).map fun p => p.2.toNat).getD 0
    match (ρ x).k, P.underlying t with
    | 1, some (.array n e) => let h := ((hi.bind fun y => asIntS (ρ y)).map fun p => p.2.toNat).getD n
      some (vS (ρ x).b ((ρ x).o + l * sizeT P e) (h - l) (n - l))
    | 2, some (.slice e) => let h := ((hi.bind fun y => asIntS (ρ y)).map fun p => p.2.toNat).getD (ρ x).n
      some (vS (ρ x).b ((ρ x).o + l * sizeT P e) (h - l) ((ρ x).h - l))
    | _, _ => none
  | .makeInterface t x => if (ρ x).isB then some (vI t (ρ x)) else none
  | .makeFunc fn a c => if a.toList.all (fun y => (ρ y).isA) && c.toList.all (fun y => (ρ y).isA) then some (vF fn (a.toList.map ρ) (c.toList.map ρ)) else none
  | .build t ps => match P.underlying t with
    | some (.struct fs) => (fillS (fun i => (fs.toList[i]?).map (·.offset)) (zeroS P t) (ps.toList.map fun p => (p.1, ρ p.2))).map vG
    | some (.array _ e) => (fillS (fun i => some (i * sizeT P e)) (zeroS P t) (ps.toList.map fun p => (p.1, ρ p.2))).map vG
    | _ => none
  | .call c => match c.callee, c.args.toList with
    | .builtin .len, [x] => match (ρ x).k with
      | 2 => some (vV (.int .i64 ((ρ x).n : Nat)))
      | _ => none
    | .builtin .cap, [x] => match (ρ x).k with
      | 2 => some (vV (.int .i64 ((ρ x).h : Nat)))
      | _ => none
    | _, _ => none
  | .binOp op _ x y _ => match op, (ρ x).k, (ρ y).k, (ρ x).x, (ρ y).x with
    | .eql, 1, 0, _, .pointer none | .eql, 0, 1, .pointer none, _ | .eql, 2, 0, _, .slice none _ _ | .eql, 7, 0, _, .nilFunc | .eql, 8, 0, _, .nilIface | .eql, 4, 0, _, .map none => some (vV (.bool false))
    | .neq, 1, 0, _, .pointer none | .neq, 0, 1, .pointer none, _ | .neq, 2, 0, _, .slice none _ _ | .neq, 7, 0, _, .nilFunc | .neq, 8, 0, _, .nilIface | .neq, 4, 0, _, .map none => some (vV (.bool true))
    | _, _, _, _, _ => none
  | _ => none
def pureOf (P : Program) : Sem Next → Option Value
  | .pure (.value v) => some v
  | .program k => pureOf P (k P)
  | .mark _ k => pureOf P k
  | _ => none
/-- All operands without known addresses: the operation itself. -/
def pureV (P : Program) (ρ : Operand → SV) (o : Oper) : Option SV :=
  if o.op.operands.toList.all (fun x => (shv (ρ x)).isSome) then (pureOf P (execOp (fun x => (shv (ρ x)).getD undef) o)).map vV else none
/-- What is laid into a new block. -/
def allocS (P : Program) (ρ : Operand → SV) (o : Oper) (b : Nat) : Option (List SV × TypeId × SV) := match o.op with
  | .alloc t => some (zeroS P t, t, vP b 0)
  | .box t x => some (cellsS (ρ x), t, vP b 0)
  | .buildSlice t n ps => match P.underlying t with
    | some (.slice e) => (fillS (fun i => some (i * sizeT P e)) ((List.range (n * sizeT P e)).map fun j => (zeroS P e).getD (j % (zeroS P e).length) (vV undef)) (ps.toList.map fun p => (p.1, ρ p.2))).map fun l => (l, e, vS b 0 n n)
    | _ => none
  | .makeSlice t l c => match P.underlying t, asIntS (ρ l), asIntS (ρ c) with
    | some (.slice e), some (_, n), some (_, h) => some ((List.range (h.toNat * sizeT P e)).map fun j => (zeroS P e).getD (j % (zeroS P e).length) (vV undef), e, vS b 0 n.toNat h.toNat)
    | _, _, _ => none
  | _ => none
end Go.Proofs.Ytlfekknonjlopaa
