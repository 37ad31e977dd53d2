/- Part 1 of the walks and facts behind msgBack_holds. -/
import Derived.BigQuiet
import Derived.Deep.AppendSrc
import Derived.Deep.LoopGhost
import Derived.Deep.MidRow
import Derived.Laws.AppendOwn
import Derived.Laws.Bits64
import Derived.Laws.BitsAllLaws
import Derived.Laws.BytesString
import Derived.Laws.IdiomStrings
import Derived.Laws.MakeOwn
import Derived.Laws.Rows
import Derived.Laws.StructEq
import Derived.LoopN
import Derived.OrdersHeld
import Derived.RegionTactic
import Derived.StillTail
import Derived.Test.YtbechjlkmajcoaaRows
import Derived.WalkKit
import Derived.WalkLawsBesides
import Derived.WalkSpells
namespace Go.Proofs.Ytbechjlkmajcoaa
open Go.RowKit
section
variable {P : Program} {ops : Array Oper} {md : Region.Mode} {C : World → Prop}
def HeadQ (P : Program) (md : Region.Mode) (ops : Array Oper) (C : World → Prop) (n : Nat) (L : Array Bool → Act → Prop) : Nat → Array Bool → Act → Prop
 | 0, done, a => L done a
 | f + 1, done, a => Region.ready md ops done ≠ [] ∧ ∀ i ∈ Region.ready md ops done, i < n ∧ qOp P ops C i (HeadQ P md ops C n L f (done.setIfInBounds i true)) a
theorem HeadQ.any {n g : Nat} {L : Array Bool → Act → Prop} {Q : Exit → Act → World → Prop} (hL : ∀ done a w, C w → L done a → wpAny P md ops Q g done a w) :
  ∀ (f : Nat) (done : Array Bool) (a : Act) (w : World), C w → HeadQ P md ops C n L f done a → wpAny P md ops Q (f + g) done a w := by
 intro f
 induction f with
 | zero =>
  intro done a w hw h
  rw [Nat.zero_add]
  exact hL done a w hw h
 | succ f ih =>
  intro done a w hw h
  have e : f + 1 + g = (f + g) + 1 := by omega
  rw [e]
  exact ⟨fun h0 => absurd h0 h.1, fun i hi => wpOp_of_qOp hw (fun a' w' hw' h' => ih _ a' w' hw' h') (h.2 i hi).2⟩
theorem HeadQ.first {n i : Nat} {oi : Oper} {v : Value} {L : Array Bool → Act → Prop} (hi : ops[i]? = some oi) (hsel : ∀ (j : Nat) (o : Oper) cs b, ops[j]? = some o → o.op ≠ .select cs b)
  (hs : Region.sinkB md ops n = true) (hc : Region.chainB md ops n = true) (hn : n < ops.size) (hin : i < n) (hend : ∀ done a, L done a → ∀ j ∈ Region.ready md ops done, n ≤ j) :
  ∀ (f : Nat) (done : Array Bool) (a : Act), HeadInv md ops n done →
   (∀ j oj, ops[j]? = some oj → j ≠ i → done.getD j true = false → (∀ e ∈ oj.after, Region.binds md e = true → e.on ≠ i) → oi.apart ops oj = true) →
   i ∈ Region.ready md ops done → YieldsIn P ops C oi v a → HeadQ P md ops C n L f (done.setIfInBounds i true) (a.put oi.dst v) → HeadQ P md ops C n L (f + 1) done a := by
 intro f
 induction f with
 | zero =>
  intro done a inv _ hr hy H
  refine ⟨fun h => (by rw [h] at hr; cases hr), fun j hj => ?_⟩
  have hjn : j < n := Nat.lt_of_not_le fun h => tail_waits hs hc hn inv _ i rfl hin (mem_ready.1 hr).1 j h hj
  refine ⟨hjn, ?_⟩
  by_cases hji : j = i
  ·subst hji
   exact hy.qOp hi H
  ·have := hend _ _ H j (ready_mono hj hji)
   omega
 | succ f ih =>
  intro done a inv hfree hr hy H
  have hun := (mem_ready.1 hr).1
  refine ⟨fun h => (by rw [h] at hr; cases hr), fun j hj => ?_⟩
  have hjn : j < n := Nat.lt_of_not_le fun h => tail_waits hs hc hn inv _ i rfl hin hun j h hj
  refine ⟨hjn, ?_⟩
  by_cases hji : j = i
  ·subst hji
   exact hy.qOp hi H
  ·obtain ⟨hjun, oj, hoj, hall⟩ := mem_ready.1 hj
   have hno : ∀ e ∈ oj.after, Region.binds md e = true → e.on ≠ i := by
    intro e he hb heq
    have h1 := hall e he hb
    rw [heq, getD_both hun] at h1
    cases h1
   have h2 := qOp_put hoj (hfree j oj hoj hji hjun hno) (fun cs b => hsel i oi cs b hi) (fun cs b => hsel j oj cs b hoj) hy (H.2 j (ready_mono hj hji)).2
   refine qOp_mono (fun a' h3 => ih (done.setIfInBounds j true) a' (inv.set hj hjn) ?_ (ready_mono hr (Ne.symm hji)) h3.1 ?_) h2
   ·intro k ok hk hki hku hkn
    refine hfree k ok hk hki ?_ hkn
    by_cases hjk : j = k
    ·subst hjk
     exact hjun
    ·rw [getD_set_ne true hjk] at hku
     exact hku
   ·rw [Array.setIfInBounds_comm _ _ hji]
    exact h3.2
theorem HeadQ.lex {n g : Nat} {K : Act → Prop} (hsel : Region.noSelect ops = true) (hs : Region.sinkB md ops n = true) (hc : Region.chainB md ops n = true) (hn : n < ops.size) (l : List Oper) :
  ∀ (k : Nat) (done : Array Bool) (a : Act), (∀ j, j < l.length → l[j]? = ops[k + j]?) → k + l.length = n → HeadInv md ops n done →
  Region.lexHead md ops g l.length k done = true → wpQuiet P ops C K l a → HeadQ P md ops C n (fun d a' => Region.seqB md ops g n d = true ∧ K a') l.length done a := by
 induction l with
 | nil =>
  intro k done a _ hk _ hB h
  have e : k = n := by simpa using hk
  subst e
  exact ⟨by simpa [Region.lexHead] using hB, h⟩
 | cons o l ih =>
  intro k done a hl hk inv hB h
  have h0 : ops[k]? = some o := by simpa using (hl 0 (by simp)).symm
  simp only [List.length_cons, Region.lexHead, Bool.and_eq_true] at hB
  simp only [List.length_cons] at hk
  have hr : k ∈ Region.ready md ops done := by simpa using hB.1.1
  have hq : qOp P ops C k (wpQuiet P ops C K l) a := by
   unfold qOp
   simp only [h0]
   exact h
  obtain ⟨v, hy, hK⟩ := yieldsIn_of_qOp h0 hq
  refine HeadQ.first h0 (Region.noSelect_spec hsel) hs hc hn (by omega) (fun d a' hL => seqB_ready hL.1) l.length done a inv (Region.free_spec h0 hB.1.2) hr hy ?_
  refine ih (k + 1) _ _ (fun j hj => ?_) (by omega) (inv.set hr (by omega)) hB.2 hK
  have := hl (j + 1) (by simp; omega)
  simpa [Nat.add_assoc, Nat.add_comm 1 j] using this
theorem wp_region_quiet_tail {id : Nat} {Q : Exit → Act → World → Prop} {a : Act} {w : World} {l : List Oper} (n : Nat) (hm : P.follows .mixedOrders = true) (hB : Region.lexTailB .any l.toArray n = true) (hC : C { w with drawn := w.drawn + 1 })
  (h : wpQuiet P l.toArray C (fun a' => ∀ w', C w' → wpList P l.toArray Q (l.drop n) a' w') (l.take n) a) : (Code.region id l.toArray true).wp P Q a w := by
 simp only [Region.lexTailB, Bool.and_eq_true, decide_eq_true_eq] at hB
 obtain ⟨⟨⟨⟨hsel, hn⟩, hs⟩, hc⟩, hlex⟩ := hB
 have hn' : n < l.length := by simpa using hn
 have htl : (l.take n).length = n := by simp; omega
 have hdl : (l.drop n).length = l.toArray.size - n := by simp
 have inv : HeadInv .any l.toArray n (Array.replicate l.toArray.size false) :=
  ⟨by simp, fun j oj _ hl => (by rw [getD_replicate_false] at hl; cases hl), fun t _ ht => getD_in (by simpa using ht) (getD_replicate_false _ _)⟩
 have H := HeadQ.lex (md := .any) (g := l.toArray.size - n) hsel hs hc hn (l.take n) 0 _ a (fun j hj => by rw [htl] at hj; simp [hj]) (by simpa using htl) inv (by rw [htl]; exact hlex) h
 refine wp_region_any hm ?_
 have H2 := HeadQ.any (Q := Q) (g := l.toArray.size - n) (fun done a' w' hw' hL => by
  have := wpAny_of_seq (md := .any) (Q' := Q) (l.drop n) n done a' w' (fun j => by simp [List.getElem?_drop]) (by rw [hdl]; exact hL.1) (hL.2 w' hw')
  rwa [hdl] at this) _ _ _ _ hC H
 rw [htl, show n + (l.toArray.size - n) = l.toArray.size by omega] at H2
 exact H2
structure KW (W : World) where
 w : World
 keep : Below W.heap.size W w
def KW.next {W : World} (s : KW W) (w' : World) (h : Below s.w.heap.size s.w w') : KW W := ⟨w', s.keep.trans (h.mono s.keep.size)⟩
theorem KW.drew (W : World) : ∃ s : KW W, ({ W with drawn := W.drawn + 1 } : World) = s.w := ⟨⟨W.drew, (Below.refl _ _).drew⟩, rfl⟩
theorem keep_of {W : World} {s : KW W} {f : FuncId} {args : Array Value} {v : Value}
  (h : Calls P f args s.w fun e w' => e = .returned v ∧ Below s.w.heap.size s.w w') : Calls P f args s.w fun e w'' => e = .returned v ∧ ∃ t : KW W, w'' = t.w :=
 h.mono fun _ w' ⟨he, hb⟩ => ⟨he, s.next w' hb, rfl⟩
theorem wp_region_keep {id : Nat} {Q : Exit → Act → World → Prop} {a : Act} {w : World} {l : List Oper} (hm : P.follows .mixedOrders = true) (hB : Region.lexB .any l.toArray = true)
  (h : wpQuiet P l.toArray (fun w' => ∃ s : KW w, w' = s.w) (fun a' => ∀ s : KW w, Q .normal a' s.w) l a) : (Code.region id l.toArray true).wp P Q a w := by
 refine wp_region_quiet (C := fun w' => ∃ s : KW w, w' = s.w) hm hB (KW.drew w) ?_
 have e : (fun a' => ∀ w', (∃ s : KW w, w' = s.w) → Q .normal a' w') = fun a' => ∀ s : KW w, Q .normal a' s.w := by
  funext a'
  exact propext ⟨fun h s => h _ ⟨s, rfl⟩, fun h w' ⟨s, hs⟩ => hs ▸ h s⟩
 rw [e]
 exact h
theorem wp_region_keep_tail {id : Nat} {Q : Exit → Act → World → Prop} {a : Act} {w : World} {l : List Oper} (n : Nat) (hm : P.follows .mixedOrders = true) (hB : Region.lexTailB .any l.toArray n = true)
  (h : wpQuiet P l.toArray (fun w' => ∃ s : KW w, w' = s.w) (fun a' => ∀ s : KW w, wpList P l.toArray Q (l.drop n) a' s.w) (l.take n) a) : (Code.region id l.toArray true).wp P Q a w := by
 refine wp_region_quiet_tail (C := fun w' => ∃ s : KW w, w' = s.w) n hm hB (KW.drew w) ?_
 have e : (fun a' => ∀ w', (∃ s : KW w, w' = s.w) → wpList P l.toArray Q (l.drop n) a' w') = fun a' => ∀ s : KW w, wpList P l.toArray Q (l.drop n) a' s.w := by
  funext a'
  exact propext ⟨fun h s => h _ ⟨s, rfl⟩, fun h w' ⟨s, hs⟩ => hs ▸ h s⟩
 rw [e]
 exact h
end
end Go.Proofs.Ytbechjlkmajcoaa

namespace Go.Proofs.Ytbechjlkmajcoaa
open Go.RowKit
section
variable {P : Program} {ops : Array Oper} {md : Region.Mode} {W : World} {n : Nat}
def keepUpon (P : Program) (w : World) (v : Value) : Result Next → Prop
 | .ok (.value u) w' => w' = w ∧ u = v
 | .ok .skip w' => w' = w ∧ v = undef
 | .ok (.enter f args) w' => w' = w ∧ Calls P f args w (fun e w'' => e = .returned v ∧ Below w.heap.size w w'')
 | _ => False
def keepAt (P : Program) (o : Oper) (a : Act) (w : World) (v : Value) : Prop := keepUpon P w v ((execOp a.eval o).run P w)
def keepOp (P : Program) (o : Oper) (a : Act) (W : World) (K : Act → Prop) : Prop := ∃ v, (∀ s : KW W, keepAt P o a s.w v) ∧ K (a.put o.dst v)
def wpK (P : Program) (ops : Array Oper) (W : World) (Q : Act → Prop) : List Oper → Act → Prop
 | [], a => Q a
 | o :: rest, a => if Region.wanted o (yielded ops a.tmps) then keepOp P o a W (wpK P ops W Q rest) else wpK P ops W Q rest (a.put o.dst undef)
end
end Go.Proofs.Ytbechjlkmajcoaa

namespace Go.Proofs.Ytbechjlkmajcoaa
open Go.RowKit
def setAll (cs : Array Value) : Nat → List Value → Array Value
 | _, [] => cs
 | o, v :: vs => setAll (cs.setIfInBounds o v) (o + 1) vs
theorem setAll_get (vs : List Value) : ∀ (cs : Array Value) (o i : Nat), o + vs.length ≤ cs.size → (setAll cs o vs)[i]? = if o ≤ i ∧ i < o + vs.length then vs[i - o]? else cs[i]? := by
 induction vs with
 | nil =>
  intro cs o i _
  simp only [setAll, List.length_nil]
  rw [if_neg (by omega)]
 | cons v vs ih =>
  intro cs o i h
  simp only [List.length_cons] at h
  simp only [setAll, List.length_cons]
  rw [ih _ _ _ (by simp; omega)]
  by_cases h1 : o + 1 ≤ i ∧ i < o + 1 + vs.length
  ·rw [if_pos h1, if_pos (by omega), show i - o = (i - (o + 1)) + 1 by omega, List.getElem?_cons_succ]
  ·rw [if_neg h1]
   by_cases h2 : i = o
   ·subst h2
    rw [if_pos (by omega), Nat.sub_self, Array.getElem?_setIfInBounds]
    simp
    omega
   ·rw [if_neg (by omega), Array.getElem?_setIfInBounds_ne (by omega)]
theorem heap_setCells (g : Nat) (T : TypeId) (vs : List Value) : ∀ (W : World) (cs : Array Value) (o : Nat), W.heap[g]? = some (.cells cs T (0, 0)) → (W.setCells g o vs).heap[g]? = some (.cells (setAll cs o vs) T (0, 0)) := by
 induction vs with
 | nil => intro W cs o h; exact h
 | cons v vs ih =>
  intro W cs o h
  exact ih _ _ _ (heap_setCell_same W g o cs T v h)
end Go.Proofs.Ytbechjlkmajcoaa

namespace Go.Proofs.Ytbechjlkmajcoaa
open Go.RowKit
section
variable {P : Program} {ops : Array Oper} {md : Region.Mode} {Q : Exit → Act → World → Prop}
theorem op_load_row {o : Oper} {a : Act} {w : World} {K : Act → World → Prop} (ty : TypeId) (x : Operand) (ho : o.op = .load ty x) (g : Nat) (hx : a.eval x = .pointer (some ⟨g, 0, none⟩)) (t : TypeId) (cs : Array Value) (fr : Nat × Nat) (d : TypeDesc)
  (hg : w.heap[g]? = some (.cells cs t fr)) (hu : P.underlying ty = some d) (hd : (match d with | .struct _ | .array _ _ => true | _ => false) = true) (hi : (P.info? ty).map (·.size) = some cs.size)
  (hk : K (a.put o.dst (.agg cs)) w) : o.wp P a w K Q := by
 unfold Oper.wp execOp
 simp only [ho, hx, Instr.loadAt, Instr.sureAddr, Sem.run_bind, Sem.run_pure, Result.andThen_ok, run_loadVar_row w g t ty cs fr d hg hu hd hi]
 exact hk
theorem results_cell_tmp {fn : Func} {p s : Tmp} {ty : TypeId} (h : fn.results = #[.cell p ty, .tmp s]) (tmps : Array Value) (w : World) (g : Nat) (t : TypeId) (cs : Array Value) (fr : Nat × Nat) (d : TypeDesc) (v : Value)
  (hp : tmps.getD p undef = .pointer (some ⟨g, 0, none⟩)) (hs : tmps.getD s undef = v) (hg : w.heap[g]? = some (.cells cs t fr))
  (hu : P.underlying ty = some d) (hd : (match d with | .struct _ | .array _ _ => true | _ => false) = true) (hi : (P.info? ty).map (·.size) = some cs.size) :
  (results fn tmps).run P w = .ok (.tuple #[.agg cs, v]) w := by
 have hp' : tmps[p]?.getD undef = .pointer (some ⟨g, 0, none⟩) := by simpa using hp
 have hs' : tmps[s]?.getD undef = v := by simpa using hs
 simp [results, h, hp', hs', asAddr, run_loadVar_row w g t ty cs fr d hg hu hd hi]
end
end Go.Proofs.Ytbechjlkmajcoaa

namespace Go.Proofs.Ytbechjlkmajcoaa
open Go.RowKit
def av (n : Nat) (F : Nat → Value) : Array Value := ((List.range n).map F).toArray
theorem av_size (n : Nat) (F : Nat → Value) : (av n F).size = n := by simp [av]
theorem av_get (n : Nat) (F : Nat → Value) (i : Nat) (h : i < n) : (av n F)[i]? = some (F i) := by simp [av, h]
theorem av_congr {n : Nat} {F G : Nat → Value} (h : ∀ i, i < n → F i = G i) : av n F = av n G := by
 unfold av
 congr 1
 exact List.map_congr_left fun i hi => h i (List.mem_range.1 hi)
def upd {α : Type} (f : Nat → α) (k : Nat) (v : α) : Nat → α := fun i => if i = k then v else f i
theorem av_set (n : Nat) (F : Nat → Value) (k : Nat) (v : Value) : (av n F).setIfInBounds k v = av n (upd F k v) := by
 apply Array.ext_getElem?
 intro i
 by_cases hi : i < n
 ·rw [Array.getElem?_setIfInBounds, av_get n (upd F k v) i hi]
  by_cases hk : k = i
  ·subst hk
   rw [if_pos rfl, if_pos (by rw [av_size]; exact hi)]
   simp [upd]
  ·have : ¬ i = k := fun h => hk h.symm
   rw [if_neg hk, av_get n F i hi]
   simp [upd, this]
 ·rw [Array.getElem?_eq_none (by simp [av_size]; omega), Array.getElem?_eq_none (by simp [av_size]; omega)]
structure Blk where
 g : Nat
 Z : Obj
structure Ctx where
 w : World
 r : List Nat
def Laid (_ : World) : Prop := True
structure Grw (w w' : World) (r : List Nat) : Prop where
 os : w'.os = w.os
 tape : w'.tape = w.tape
 output : w'.output = w.output
 size : w.heap.size ≤ w'.heap.size
 block : ∀ k, k < w.heap.size → k ∉ r → w'.heap[k]? = w.heap[k]?
theorem grown_refl (w : World) (r : List Nat) : Grw w w r := ⟨rfl, rfl, rfl, Nat.le_refl _, fun _ _ _ => rfl⟩
theorem below_grown {w w' : World} (h : Grw w w' []) : Below w.heap.size w w' := ⟨h.os, h.tape, h.output, h.size, fun k hk => h.block k hk (by simp)⟩
structure Mem (c : Ctx) (L : List Blk) (W : World) : Prop where
 old : Grw c.w W c.r
 at_ : ∀ b ∈ L, W.heap[b.g]? = some b.Z
 ge : ∀ b ∈ L, c.w.heap.size ≤ b.g ∨ b.g ∈ c.r
 nodup : (L.map Blk.g).Nodup
 lay : Laid c.w
theorem Mem.start {w : World} (h : Laid w) : Mem ⟨w, []⟩ [] w := ⟨grown_refl _ _, by simp, by simp, by simp, h⟩
theorem Mem.startp {w : World} (h : Laid w) {g : Nat} {Z : Obj} (hg : w.heap[g]? = some Z) : Mem ⟨w, [g]⟩ [⟨g, Z⟩] w := ⟨grown_refl _ _, by simpa using hg, by simp, by simp, h⟩
theorem Mem.laid {c : Ctx} {W : World} {L : List Blk} (_ : Mem c L W) : Laid W := trivial
theorem Mem.lt {c : Ctx} {W : World} {L : List Blk} (M : Mem c L W) {b : Blk} (hb : b ∈ L) : b.g < W.heap.size := by
 have h := M.at_ b hb
 exact (Array.getElem?_eq_some_iff.1 h).1
theorem grown_keep {c : Ctx} {W W' : World} (ho : Grw c.w W c.r) (h : Below W.heap.size W W') : Grw c.w W' c.r :=
 ⟨h.os.trans ho.os, h.tape.trans ho.tape, h.output.trans ho.output, Nat.le_trans ho.size h.size, fun k hk hr => (h.block k (Nat.lt_of_lt_of_le hk ho.size)).trans (ho.block k hk hr)⟩
theorem Mem.keep {c : Ctx} {W W' : World} {L : List Blk} (M : Mem c L W) (h : Below W.heap.size W W') : Mem c L W' where
 old := grown_keep M.old h
 at_ := fun b hb => by rw [h.block _ (M.lt hb)]; exact M.at_ b hb
 ge := M.ge
 nodup := M.nodup
 lay := M.lay
theorem Mem.news {c : Ctx} {W W' : World} {L N : List Blk} (M : Mem c L W) (h : Below W.heap.size W W') (hat : ∀ b ∈ N, W'.heap[b.g]? = some b.Z) (hge : ∀ b ∈ N, W.heap.size ≤ b.g) (hnd : (N.map Blk.g).Nodup) : Mem c (L ++ N) W' where
 old := grown_keep M.old h
 at_ := fun b hb => by
  rcases List.mem_append.1 hb with hb | hb
  ·rw [h.block _ (M.lt hb)]; exact M.at_ b hb
  ·exact hat b hb
 ge := fun b hb => by
  rcases List.mem_append.1 hb with hb | hb
  ·exact M.ge b hb
  ·exact .inl (Nat.le_trans M.old.size (hge b hb))
 nodup := by
  rw [List.map_append, List.nodup_append]
  refine ⟨M.nodup, hnd, fun x hx y hy e => ?_⟩
  obtain ⟨b, hb, rfl⟩ := List.mem_map.1 hx
  obtain ⟨d, hd, rfl⟩ := List.mem_map.1 hy
  have h1 := M.lt hb
  have h2 := hge d hd
  omega
 lay := M.lay
theorem Mem.new {c : Ctx} {W W' : World} {L : List Blk} (M : Mem c L W) (g : Nat) (Z : Obj) (h : Below W.heap.size W W') (hat : W'.heap[g]? = some Z) (hge : W.heap.size ≤ g) : Mem c (L ++ [⟨g, Z⟩]) W' :=
 M.news h (by simpa using hat) (by simpa using hge) (by simp)
theorem Mem.drop {c : Ctx} {W : World} {L L' : List Blk} (M : Mem c L W) (h : L'.Sublist L) : Mem c L' W where
 old := M.old
 at_ := fun b hb => M.at_ b (h.subset hb)
 ge := fun b hb => M.ge b (h.subset hb)
 nodup := M.nodup.sublist (h.map _)
 lay := M.lay
theorem Mem.perm {c : Ctx} {W : World} {L L' : List Blk} (M : Mem c L W) (h : L.Perm L') : Mem c L' W where
 old := M.old
 at_ := fun b hb => M.at_ b (h.mem_iff.2 hb)
 ge := fun b hb => M.ge b (h.mem_iff.2 hb)
 nodup := (h.map _).nodup_iff.1 M.nodup
 lay := M.lay
theorem Mem.drew {c : Ctx} {W : World} {L : List Blk} (M : Mem c L W) : Mem c L W.drew := M.keep ((Below.refl _ _).drew)
theorem nodup_ne {α : Type} {l : List α} (h : l.Nodup) {i j : Nat} (hij : i < j) (hj : j < l.length) : l[i]? ≠ l[j]? := by
 have h1 := List.pairwise_iff_getElem.1 h i j (by omega) hj hij
 rw [List.getElem?_eq_getElem (by omega), List.getElem?_eq_getElem hj]
 exact fun e => h1 (Option.some.inj e)
theorem nodup_at {L : List Blk} (h : (L.map Blk.g).Nodup) {i j : Nat} {b c : Blk} (hi : L[i]? = some b) (hj : L[j]? = some c) (hij : i ≠ j) : b.g ≠ c.g := by
 intro e
 have h1 := List.getElem?_eq_some_iff.1 hi
 have h2 := List.getElem?_eq_some_iff.1 hj
 obtain ⟨l1, e1⟩ := h1
 obtain ⟨l2, e2⟩ := h2
 rcases Nat.lt_or_gt_of_ne hij with hlt | hlt
 ·refine nodup_ne h hlt (by simpa using l2) ?_
  simp [hi, hj, e]
 ·refine nodup_ne h hlt (by simpa using l1) ?_
  simp [hi, hj, e]
theorem Mem.put {c : Ctx} {W W' : World} {L : List Blk} (M : Mem c L W) (i : Nat) (b : Blk) (hi : L[i]? = some b) (Z : Obj) (hu : Grw W W' [b.g]) (hz : W'.heap[b.g]? = some Z) : Mem c (L.set i ⟨b.g, Z⟩) W' where
 old := ⟨hu.os.trans M.old.os, hu.tape.trans M.old.tape, hu.output.trans M.old.output, Nat.le_trans M.old.size hu.size, fun k hk hr => by
  have hg := M.ge b (List.mem_of_getElem? hi)
  refine (hu.block k (Nat.lt_of_lt_of_le hk M.old.size) fun e => ?_).trans (M.old.block k hk hr)
  obtain rfl := List.mem_singleton.1 e
  rcases hg with hg | hg
  ·omega
  ·exact hr hg⟩
 at_ := fun d hd => by
  obtain ⟨j, hj⟩ := List.mem_iff_getElem?.1 hd
  rw [List.getElem?_set] at hj
  by_cases hij : i = j
  ·subst hij
   rw [if_pos rfl] at hj
   split at hj
   ·cases hj
    exact hz
   ·cases hj
  ·rw [if_neg hij] at hj
   have hm := List.mem_of_getElem? hj
   rw [hu.block _ (M.lt hm) (fun e => nodup_at M.nodup hj hi (Ne.symm hij) (List.mem_singleton.1 e))]
   exact M.at_ d hm
 ge := fun d hd => by
  obtain ⟨j, hj⟩ := List.mem_iff_getElem?.1 hd
  rw [List.getElem?_set] at hj
  by_cases hij : i = j
  ·subst hij
   rw [if_pos rfl] at hj
   split at hj
   ·cases hj
    exact M.ge b (List.mem_of_getElem? hi)
   ·cases hj
  ·rw [if_neg hij] at hj
   exact M.ge d (List.mem_of_getElem? hj)
 nodup := by
  have e : (L.set i ⟨b.g, Z⟩).map Blk.g = L.map Blk.g := by
   apply List.ext_getElem?
   intro j
   simp only [List.getElem?_map, List.getElem?_set]
   by_cases hij : i = j
   ·subst hij
    rw [if_pos rfl, hi]
    have := (List.getElem?_eq_some_iff.1 hi).1
    simp [this]
   ·rw [if_neg hij]
  rw [e]
  exact M.nodup
 lay := M.lay
theorem Mem.put2 {c : Ctx} {W W' : World} {L : List Blk} (M : Mem c L W) (i j : Nat) (b d : Blk) (hi : L[i]? = some b) (hj : L[j]? = some d) (Z Y : Obj) (hu : Grw W W' [b.g, d.g]) (hz : W'.heap[b.g]? = some Z) (hy : W'.heap[d.g]? = some Y) : Mem c ((L.set i ⟨b.g, Z⟩).set j ⟨d.g, Y⟩) W' := by
 have hmem : ∀ x ∈ (L.set i ⟨b.g, Z⟩).set j ⟨d.g, Y⟩, W'.heap[x.g]? = some x.Z ∧ ∃ y ∈ L, y.g = x.g := fun x hx => by
  obtain ⟨k, hk⟩ := List.mem_iff_getElem?.1 hx
  rw [List.getElem?_set] at hk
  by_cases hjk : j = k
  ·subst hjk
   rw [if_pos rfl] at hk
   split at hk
   ·cases hk
    exact ⟨hy, d, List.mem_of_getElem? hj, rfl⟩
   ·cases hk
  ·rw [if_neg hjk, List.getElem?_set] at hk
   by_cases hik : i = k
   ·subst hik
    rw [if_pos rfl] at hk
    split at hk
    ·cases hk
     exact ⟨hz, b, List.mem_of_getElem? hi, rfl⟩
    ·cases hk
   ·rw [if_neg hik] at hk
    have hm := List.mem_of_getElem? hk
    refine ⟨?_, x, hm, rfl⟩
    rw [hu.block _ (M.lt hm) (fun e => by
     rcases List.mem_cons.1 e with e | e
     ·exact nodup_at M.nodup hk hi (Ne.symm hik) e
     ·exact nodup_at M.nodup hk hj (Ne.symm hjk) (List.mem_singleton.1 e))]
    exact M.at_ x hm
 refine ⟨⟨hu.os.trans M.old.os, hu.tape.trans M.old.tape, hu.output.trans M.old.output, Nat.le_trans M.old.size hu.size, fun k hk hr => ?_⟩, fun x hx => (hmem x hx).1, fun x hx => ?_, ?_, M.lay⟩
 ·refine (hu.block k (Nat.lt_of_lt_of_le hk M.old.size) fun e => ?_).trans (M.old.block k hk hr)
  have key : ∀ y ∈ L, k ≠ y.g := fun y hy2 e2 => by
   rcases M.ge y hy2 with h | h
   ·omega
   ·exact hr (e2 ▸ h)
  rcases List.mem_cons.1 e with e | e
  ·exact key b (List.mem_of_getElem? hi) e
  ·exact key d (List.mem_of_getElem? hj) (List.mem_singleton.1 e)
 ·obtain ⟨y, hy2, e⟩ := (hmem x hx).2
  rw [← e]
  exact M.ge y hy2
 ·have e : ((L.set i ⟨b.g, Z⟩).set j ⟨d.g, Y⟩).map Blk.g = L.map Blk.g := by
   apply List.ext_getElem?
   intro k
   simp only [List.getElem?_map, List.getElem?_set]
   by_cases hjk : j = k
   ·subst hjk
    have := (List.getElem?_eq_some_iff.1 hj).1
    rw [if_pos rfl, hj]
    simp [this]
   ·rw [if_neg hjk]
    by_cases hik : i = k
    ·subst hik
     have := (List.getElem?_eq_some_iff.1 hi).1
     rw [if_pos rfl, hi]
     simp [this]
    ·rw [if_neg hik]
  rw [e]
  exact M.nodup
theorem Mem.get {c : Ctx} {W : World} {L : List Blk} (M : Mem c L W) (i : Nat) {g : Nat} {Z : Obj} (hi : L[i]? = some ⟨g, Z⟩) : W.heap[g]? = some Z := M.at_ _ (List.mem_of_getElem? hi)
theorem grown_trans {w1 w2 w3 : World} {r : List Nat} (h : Grw w1 w2 r) (k : Grw w2 w3 r) : Grw w1 w3 r := ⟨k.os.trans h.os, k.tape.trans h.tape, k.output.trans h.output, Nat.le_trans h.size k.size, fun j hj hr => (k.block j (Nat.lt_of_lt_of_le hj h.size) hr).trans (h.block j hj hr)⟩
theorem grown_setCell (W : World) (g o : Nat) (v : Value) : Grw W (W.setCell ⟨g, o, none⟩ v) [g] :=
 ⟨rfl, rfl, rfl, by simp, fun k _ hr => Below.heap_setCell _ _ _ _ (fun e => hr (by rw [e]; exact List.mem_singleton.2 rfl))⟩
theorem grown_setCells (g : Nat) (vs : List Value) : ∀ (W : World) (o : Nat), Grw W (W.setCells g o vs) [g] := by
 induction vs with
 | nil => intro W o; exact grown_refl _ _
 | cons v vs ih => intro W o; exact grown_trans (grown_setCell W g o v) (ih _ _)
theorem cell_av {W : World} {g n T : Nat} {F : Nat → Value} {fr : Nat × Nat} (h : W.heap[g]? = some (.cells (av n F) T fr)) {i : Nat} (hi : i < n) : W.cell? ⟨g, i, none⟩ = some (F i) := by
 unfold World.cell?
 rw [h]
 simpa using av_get n F i hi
theorem free_av {W : World} {g n T : Nat} {F : Nat → Value} (h : W.heap[g]? = some (.cells (av n F) T (0, 0))) (i : Nat) : W.frozen? ⟨g, i, none⟩ = false := by
 unfold World.frozen?
 rw [h]
 simp
theorem av_toList_get (n : Nat) (F : Nat → Value) (j : Nat) (v : Value) (h : (av n F).toList[j]? = some v) : j < n ∧ v = F j := by
 have hj : j < n := by
  have := (List.getElem?_eq_some_iff.1 h).1
  simpa [av_size] using this
 refine ⟨hj, ?_⟩
 have h2 := av_get n F j hj
 rw [Array.getElem?_toList] at h
 rw [h2] at h
 exact (Option.some.inj h).symm
theorem range_av {W : World} {g n T : Nat} {F : Nat → Value} {fr : Nat × Nat} (h : W.heap[g]? = some (.cells (av n F) T fr)) (o k : Nat) (F' : Nat → Value) (hok : o + k ≤ n) (he : ∀ i, i < k → F (o + i) = F' i) : W.rangeAt g o (av k F').toList := by
 intro j v hv
 obtain ⟨hj, rfl⟩ := av_toList_get k F' j v hv
 rw [cell_av h (by omega), he j hj]
theorem there_av {W : World} {g n T : Nat} {F : Nat → Value} (h : W.heap[g]? = some (.cells (av n F) T (0, 0))) (o k : Nat) (hk : o + k ≤ n) : W.there g o k := fun j hj => by
 rw [cell_av h (by omega)]
 exact ⟨rfl, free_av h _⟩
theorem setAll_av (n : Nat) (F F' Fn : Nat → Value) (off k : Nat) (hk : off + k ≤ n) (hfn : ∀ j, j < n → (if off ≤ j ∧ j < off + k then F' (j - off) else F j) = Fn j) : setAll (av n F) off (av k F').toList = av n Fn := by
 have hlen : (av k F').toList.length = k := by simp [av_size]
 apply Array.ext_getElem?
 intro i
 rw [setAll_get _ _ _ _ (by rw [hlen, av_size]; exact hk), hlen]
 by_cases hi : i < n
 ·rw [av_get n Fn i hi, ← hfn i hi]
  by_cases h : off ≤ i ∧ i < off + k
  ·rw [if_pos h, if_pos h, Array.getElem?_toList, av_get k F' _ (by omega)]
  ·rw [if_neg h, if_neg h, av_get n F i hi]
 ·rw [if_neg (by omega), Array.getElem?_eq_none (by rw [av_size]; omega), Array.getElem?_eq_none (by rw [av_size]; omega)]
theorem av_one (n : Nat) (F : Nat → Value) (h : ∀ i, i < n → (F i).oneCell' = true) : (av n F).all (·.oneCell') = true := by
 rw [Array.all_eq_true]
 intro i hi
 have hi' : i < n := by rw [av_size] at hi; exact hi
 have h2 := av_get n F i hi'
 rw [Array.getElem?_eq_getElem hi] at h2
 rw [Option.some.inj h2]
 exact h i hi'
structure PL (P : Program) (ops : Array Oper) (Q : Exit → Act → World → Prop) (l : List Oper) (a : Act) (w : World) : Prop where
 out : wpList P ops Q l a w
structure KL (P : Program) (ops : Array Oper) (W : World) (Q : Act → Prop) (l : List Oper) (a : Act) : Prop where
 out : wpK P ops W Q l a
section
variable {P : Program} {ops : Array Oper} {rest : List Oper} {o : Oper} {a : Act} {w : World} {c : Ctx} {L : List Blk} {Q : Exit → Act → World → Prop} {K : Act → World → Prop}
theorem rg_lit {id : Nat} {l : List Oper} (h : PL P l.toArray Q l a w) : (Code.region id l.toArray false).wp P Q a w := wp_region_lit h.out
theorem pl_nil (h : Q .normal a w) : PL P ops Q [] a w := ⟨h⟩
theorem want_no (hg : o.guard = none) : Region.wanted o (yielded ops a.tmps) = true := by
 unfold Region.wanted
 rw [hg]
def boolOf : Value → Option Bool
 | .bool b => some b
 | _ => none
theorem yielded_at (j : Nat) (t : Tmp) (hd : (ops.toList[j]?).bind (·.dst) = some t) (v : Value) (hv : a.eval (.tmp t) = v) : yielded ops a.tmps j = boolOf v := by
 have hd' : (ops[j]?).bind (·.dst) = some t := by rw [← Array.getElem?_toList]; exact hd
 have e : a.tmps[t]?.getD undef = v := by rw [← hv]; simp [Act.eval]
 unfold yielded
 rw [hd']
 simp only [Option.bind_some]
 cases h : a.tmps[t]? with
 | none =>
  rw [h] at e
  rw [← e]
  rfl
 | some u =>
  rw [h] at e
  rw [← e]
  cases u <;> rfl
theorem want_on (j : Nat) (b : Bool) (hg : o.guard = some (j, b)) (t : Tmp) (hd : (ops.toList[j]?).bind (·.dst) = some t) (hv : a.eval (.tmp t) = .bool b) : Region.wanted o (yielded ops a.tmps) = true := by
 unfold Region.wanted
 rw [hg]
 simp only
 rw [yielded_at j t hd _ hv]
 simp [boolOf]
theorem want_off (j : Nat) (b : Bool) (hg : o.guard = some (j, b)) (t : Tmp) (hd : (ops.toList[j]?).bind (·.dst) = some t) (hv : a.eval (.tmp t) = .bool (!b)) : Region.wanted o (yielded ops a.tmps) = false := by
 unfold Region.wanted
 rw [hg]
 simp only
 rw [yielded_at j t hd _ hv]
 cases b <;> rfl
theorem want_und (j : Nat) (b : Bool) (hg : o.guard = some (j, b)) (t : Tmp) (hd : (ops.toList[j]?).bind (·.dst) = some t) (hv : a.eval (.tmp t) = undef) : Region.wanted o (yielded ops a.tmps) = false := by
 unfold Region.wanted
 rw [hg]
 simp only
 rw [yielded_at j t hd _ hv]
 rfl
theorem au_then (h : K a w) : Exit.then K Q .normal a w := h
theorem au_then_ret (h : Q .ret a w) : Exit.then K Q .ret a w := h
theorem au_then_exit {i : Nat} (h : Q (.exit i) a w) : Exit.then K Q (.exit i) a w := h
theorem au_block {id : Nat} (h : Q .normal a w) : Exit.inBlock id Q .normal a w := h
theorem au_block_ret {id : Nat} (h : Q .ret a w) : Exit.inBlock id Q .ret a w := h
theorem au_block_exit {id : Nat} (h : Q .normal a w) : Exit.inBlock id Q (.exit id) a w := by
 show (if id = id then Q .normal a w else Q (.exit id) a w)
 rw [if_pos rfl]
 exact h
theorem pl_to (hw : Region.wanted o (yielded ops a.tmps) = true) (d : Option Tmp) (hd : o.dst = d) (v : Value) (w' : World) (hrun : (execOp a.eval o).run P w = .ok (.value v) w')
  (h : PL P ops Q rest (a.put d v) w') : PL P ops Q (o :: rest) a w :=
 ⟨Go.BigFrame.wpList_want hw fun _ hK => by
  unfold Oper.wp
  rw [hrun]
  subst hd
  exact hK _ _ h.out⟩
theorem pl_val (hw : Region.wanted o (yielded ops a.tmps) = true) (d : Option Tmp) (hd : o.dst = d) (v : Value) (hrun : ∀ w, (execOp a.eval o).run P w = .ok (.value v) w)
  (h : PL P ops Q rest (a.put d v) w) : PL P ops Q (o :: rest) a w := pl_to hw d hd v w (hrun w) h
theorem pl_skip (hw : Region.wanted o (yielded ops a.tmps) = false) (d : Option Tmp) (hd : o.dst = d) (h : PL P ops Q rest (a.put d undef) w) : PL P ops Q (o :: rest) a w := by
 subst hd
 exact ⟨wpList_skip hw h.out⟩
theorem new_below (W : World) (o : Obj) : Below W.heap.size W (W.alloc o) := (Below.refl _ _).alloc (Nat.le_refl _) _
theorem pl_mk (M : Mem c L w) (hw : Region.wanted o (yielded ops a.tmps) = true) (d : Option Tmp) (hd : o.dst = d) (v : Nat → Value) (Z : Obj) (hrun : ∀ w, (execOp a.eval o).run P w = .ok (.value (v w.heap.size)) (w.alloc Z))
  (h : ∀ g w', Mem c (L ++ [⟨g, Z⟩]) w' → PL P ops Q rest (a.put d (v g)) w') : PL P ops Q (o :: rest) a w :=
 pl_to hw d hd _ _ (hrun w) (h w.heap.size (w.alloc Z) (M.new _ Z (new_below w Z) (heap_alloc_new w Z) (Nat.le_refl _)))
theorem pl_new (M : Mem c L w) (hw : Region.wanted o (yielded ops a.tmps) = true) (d : Option Tmp) (hd : o.dst = d) (Z : Obj) (hrun : ∀ w, (execOp a.eval o).run P w = .ok (.value (.pointer (some ⟨w.heap.size, 0, none⟩))) (w.alloc Z))
  (h : ∀ g w', Mem c (L ++ [⟨g, Z⟩]) w' → PL P ops Q rest (a.put d (.pointer (some ⟨g, 0, none⟩))) w') : PL P ops Q (o :: rest) a w :=
 pl_mk M hw d hd (fun g => .pointer (some ⟨g, 0, none⟩)) Z hrun h
theorem pl_callq (hw : Region.wanted o (yielded ops a.tmps) = true) (d : Option Tmp) (hd : o.dst = d) (f : FuncId) (args : Array Value) (hrun : ∀ w, (execOp a.eval o).run P w = .ok (.enter f args) w)
  (hc : Calls P f args w fun e w' => ∃ v, e = .returned v ∧ PL P ops Q rest (a.put d v) w') : PL P ops Q (o :: rest) a w :=
 ⟨Go.BigFrame.wpList_want hw fun _ hK => by
  unfold Oper.wp
  rw [hrun]
  subst hd
  exact hc.mono fun e w' ⟨v, he, hb⟩ => by subst he; exact hK _ _ hb.out⟩
theorem pl_call (M : Mem c L w) (hw : Region.wanted o (yielded ops a.tmps) = true) (d : Option Tmp) (hd : o.dst = d) (f : FuncId) (args : Array Value) (v : Value) (hrun : ∀ w, (execOp a.eval o).run P w = .ok (.enter f args) w)
  (hc : ∀ w, Mem c L w → Calls P f args w fun e w' => e = .returned v ∧ Below w.heap.size w w') (h : ∀ w', Mem c L w' → PL P ops Q rest (a.put d v) w') : PL P ops Q (o :: rest) a w :=
 pl_callq hw d hd f args hrun ((hc w M).mono fun _ w' ⟨he, hb⟩ => ⟨v, he, h w' (M.keep hb)⟩)
theorem pl_calln (M : Mem c L w) (hw : Region.wanted o (yielded ops a.tmps) = true) (d : Option Tmp) (hd : o.dst = d) (f : FuncId) (args : Array Value) (v : Nat → Value) (Z : Obj) (hrun : ∀ w, (execOp a.eval o).run P w = .ok (.enter f args) w)
  (hc : ∀ w, Mem c L w → Calls P f args w fun e w' => ∃ g, e = .returned (v g) ∧ w.heap.size ≤ g ∧ w'.heap[g]? = some Z ∧ Below w.heap.size w w') (h : ∀ g w', Mem c (L ++ [⟨g, Z⟩]) w' → PL P ops Q rest (a.put d (v g)) w') : PL P ops Q (o :: rest) a w :=
 pl_callq hw d hd f args hrun ((hc w M).mono fun _ w' ⟨g, he, h1, h2, hb⟩ => ⟨v g, he, h g w' (M.new g Z hb h2 h1)⟩)
theorem pl_callp (M : Mem c L w) (hw : Region.wanted o (yielded ops a.tmps) = true) (d : Option Tmp) (hd : o.dst = d) (f : FuncId) (args : Array Value) (v : Value) (i g : Nat) (Z Z' : Obj) (hi : L[i]? = some ⟨g, Z⟩) (hrun : ∀ w, (execOp a.eval o).run P w = .ok (.enter f args) w)
  (hc : ∀ w, Mem c L w → Calls P f args w fun e w' => e = .returned v ∧ Grw w w' [g] ∧ w'.heap[g]? = some Z') (h : ∀ w', Mem c (L.set i ⟨g, Z'⟩) w' → PL P ops Q rest (a.put d v) w') : PL P ops Q (o :: rest) a w :=
 pl_callq hw d hd f args hrun ((hc w M).mono fun _ w' ⟨he, h1, h2⟩ => ⟨v, he, h w' (M.put i ⟨g, Z⟩ hi Z' h1 h2)⟩)
theorem pl_load (M : Mem c L w) (hw : Region.wanted o (yielded ops a.tmps) = true) (d : Option Tmp) (hd : o.dst = d) (ty : TypeId) (x : Operand) (ho : o.op = .load ty x) (i g off : Nat) (hx : a.eval x = .pointer (some ⟨g, off, none⟩)) (n T : Nat) (F : Nat → Value) (hi : L[i]? = some ⟨g, .cells (av n F) T⟩)
  (k : Nat) (F' : Nat → Value) (hp : ∀ j, j < k → F (off + j) = F' j) (hk : off + k ≤ n) (t : TypeDesc) (hu : P.underlying ty = some t) (ht : t.isRow = true) (hz : (P.info? ty).map (·.size) = some k)
  (h : PL P ops Q rest (a.put d (.agg (av k F'))) w) : PL P ops Q (o :: rest) a w := by
 refine pl_to hw d hd (.agg (av k F')) w ?_ h
 unfold execOp
 have hl := run_loadAt_mid (P := P) w g off ty (av k F').toList t (range_av (M.get i hi) off k F' hk hp) hu ht (by rw [hz]; simp [av_size])
 simp only [ho, hx, Sem.run_bind, hl, Result.andThen_ok, Sem.run_pure, Array.toArray_toList]
theorem run_cell {w : World} {g k : Nat} {v : Value} (hc : w.cell? ⟨g, k, none⟩ = some v) (ty : TypeId) (hag : ∀ w, (isAgg ty).run P w = .ok false w) : (Instr.loadAt ty (.pointer (some ⟨g, k, none⟩))).run P w = .ok v w := by
 simp [Instr.loadAt, Instr.sureAddr, loadVar, hag, hc]
theorem pl_cell (M : Mem c L w) (hw : Region.wanted o (yielded ops a.tmps) = true) (d : Option Tmp) (hd : o.dst = d) (ty : TypeId) (x : Operand) (ho : o.op = .load ty x) (g off : Nat) (hx : a.eval x = .pointer (some ⟨g, off, none⟩)) (v : Value) (hag : ∀ w, (isAgg ty).run P w = .ok false w) (hc : ∀ w, Mem c L w → w.cell? ⟨g, off, none⟩ = some v)
  (h : PL P ops Q rest (a.put d v) w) : PL P ops Q (o :: rest) a w := by
 refine pl_to hw d hd v w ?_ h
 have hr := run_cell (P := P) (hc w M) ty hag
 unfold execOp
 simp only [ho, hx, Sem.run_bind, hr, Result.andThen_ok, Sem.run_pure]
theorem Mem.cell {W : World} (M : Mem c L W) (i : Nat) {g n T : Nat} {F : Nat → Value} (hi : L[i]? = some ⟨g, .cells (av n F) T⟩) {k : Nat} (hk : k < n) {v : Value} (hv : F k = v) : W.cell? ⟨g, k, none⟩ = some v := by
 rw [cell_av (M.get i hi) hk, hv]
theorem pl_put (M : Mem c L w) (hw : Region.wanted o (yielded ops a.tmps) = true) (hd : o.dst = none) (ty : TypeId) (x y : Operand) (ho : o.op = .store ty x y) (i g off : Nat) (hx : a.eval x = .pointer (some ⟨g, off, none⟩)) (n T : Nat) (F : Nat → Value) (hi : L[i]? = some ⟨g, .cells (av n F) T⟩) (k : Nat) (F' Fn : Nat → Value)
  (hy : a.eval y = .agg (av k F')) (hz : (P.info? ty).map (·.size) = some k) (hk : off + k ≤ n) (h1 : ∀ j, j < k → (F' j).oneCell' = true) (hfn : ∀ j, j < n → (if off ≤ j ∧ j < off + k then F' (j - off) else F j) = Fn j)
  (h : ∀ w', Mem c (L.set i ⟨g, .cells (av n Fn) T⟩) w' → PL P ops Q rest a w') : PL P ops Q (o :: rest) a w := by
 have R := M.get i hi
 refine ⟨Go.BigFrame.wpList_want hw fun K hK => wp_store_mid ty x y ho g off (av k F') hx hy (by rw [av_size]; exact there_av R off k hk) (by rw [hz, av_size]) (av_one _ _ h1) (hK _ _ ?_)⟩
 rw [hd]
 refine PL.out ?_
 exact h _ (M.put i ⟨g, _⟩ hi _ (grown_setCells g _ _ _) (by rw [heap_setCells g T _ w _ off R, setAll_av n F F' Fn off k hk hfn]))
theorem pl_put1 (M : Mem c L w) (hw : Region.wanted o (yielded ops a.tmps) = true) (hd : o.dst = none) (ty : TypeId) (x y : Operand) (ho : o.op = .store ty x y) (i g off : Nat) (hx : a.eval x = .pointer (some ⟨g, off, none⟩)) (n T : Nat) (F : Nat → Value) (hi : L[i]? = some ⟨g, .cells (av n F) T⟩) (v : Value) (Fn : Nat → Value)
  (hy : a.eval y = v) (hz : (P.info? ty).map (·.size) = some 1) (hk : off < n) (h1 : v.oneCell' = true) (hc : v.cells = #[v]) (hfn : ∀ j, j < n → (if j = off then v else F j) = Fn j)
  (h : ∀ w', Mem c (L.set i ⟨g, .cells (av n Fn) T⟩) w' → PL P ops Q rest a w') : PL P ops Q (o :: rest) a w := by
 have R := M.get i hi
 have h3 := h (w.setCell ⟨g, off, none⟩ v) (M.put i ⟨g, _⟩ hi _ (grown_setCell w g off v) (by
  rw [heap_setCell_same w g off _ T _ R, av_set]
  congr 2
  exact av_congr fun j hj => by rw [← hfn j hj]; rfl))
 have hrun : (Instr.storeAt ty (.pointer (some ⟨g, off, none⟩)) v).run P w = .ok () (w.setCell ⟨g, off, none⟩ v) := by
  cases hq : P.info? ty with
  | none => simp [hq] at hz
  | some t =>
   have ht : t.size = 1 := by simpa [hq] using hz
   have hcc := run_storeCells_cells (P := P) g off [v] 0 w (by intro j hj; simp at hj; subst hj; simp [cell_av R hk]) (by intro j hj; simp at hj; subst hj; simpa using free_av R off) (by simpa using h1)
   simp only [Nat.add_zero, World.setCells] at hcc
   simp [Instr.storeAt, Instr.sureAddr, storeVar, sizeOf, typeInfo, hq, ht, hc, hcc]
 refine ⟨Go.BigFrame.wpList_want hw fun K hK => ?_⟩
 unfold Oper.wp execOp
 simp only [ho, hx, hy, Sem.run_bind, hrun, Result.andThen_ok, Sem.run_pure]
 show K (a.put o.dst undef) _
 rw [hd]
 exact hK _ _ h3.out
end
section
variable {P : Program} {ops : Array Oper} {rest : List Oper} {o : Oper} {a : Act} {W : World} {c : Ctx} {L : List Blk} {Q : Act → Prop}
theorem k_any (hw : Region.wanted o (yielded ops a.tmps) = true) (d : Option Tmp) (hd : o.dst = d) (v : Value) (hrun : ∀ s : KW W, (execOp a.eval o).run P s.w = .ok (.value v) s.w) (h : KL P ops W Q rest (a.put d v)) : KL P ops W Q (o :: rest) a := by
 subst hd
 refine ⟨?_⟩
 unfold wpK
 rw [if_pos hw]
 refine ⟨v, fun s => ?_, h.out⟩
 unfold keepAt
 rw [hrun]
 exact ⟨rfl, rfl⟩
theorem k_val (hw : Region.wanted o (yielded ops a.tmps) = true) (d : Option Tmp) (hd : o.dst = d) (v : Value) (hrun : ∀ w, (execOp a.eval o).run P w = .ok (.value v) w) (h : KL P ops W Q rest (a.put d v)) : KL P ops W Q (o :: rest) a := k_any hw d hd v (fun s => hrun s.w) h
theorem k_call (M : Mem c L W) (hw : Region.wanted o (yielded ops a.tmps) = true) (d : Option Tmp) (hd : o.dst = d) (f : FuncId) (args : Array Value) (v : Value) (hrun : ∀ w, (execOp a.eval o).run P w = .ok (.enter f args) w)
  (hc : ∀ w, Mem c L w → Calls P f args w fun e w' => e = .returned v ∧ Below w.heap.size w w') (h : KL P ops W Q rest (a.put d v)) : KL P ops W Q (o :: rest) a := by
 subst hd
 refine ⟨?_⟩
 unfold wpK
 rw [if_pos hw]
 refine ⟨v, fun s => ?_, h.out⟩
 unfold keepAt
 rw [hrun]
 exact ⟨rfl, hc s.w (M.keep s.keep)⟩
theorem k_load (M : Mem c L W) (hw : Region.wanted o (yielded ops a.tmps) = true) (d : Option Tmp) (hd : o.dst = d) (ty : TypeId) (x : Operand) (ho : o.op = .load ty x) (i g off : Nat) (hx : a.eval x = .pointer (some ⟨g, off, none⟩)) (n T : Nat) (F : Nat → Value) (hi : L[i]? = some ⟨g, .cells (av n F) T⟩)
  (k : Nat) (F' : Nat → Value) (hp : ∀ j, j < k → F (off + j) = F' j) (hk : off + k ≤ n) (t : TypeDesc) (hu : P.underlying ty = some t) (ht : t.isRow = true) (hz : (P.info? ty).map (·.size) = some k)
  (h : KL P ops W Q rest (a.put d (.agg (av k F')))) : KL P ops W Q (o :: rest) a := by
 refine k_any hw d hd (.agg (av k F')) (fun s => ?_) h
 unfold execOp
 have hl := run_loadAt_mid (P := P) s.w g off ty (av k F').toList t (range_av ((M.keep s.keep).get i hi) off k F' hk hp) hu ht (by rw [hz]; simp [av_size])
 simp only [ho, hx, Sem.run_bind, hl, Result.andThen_ok, Sem.run_pure, Array.toArray_toList]
theorem k_cell (M : Mem c L W) (hw : Region.wanted o (yielded ops a.tmps) = true) (d : Option Tmp) (hd : o.dst = d) (ty : TypeId) (x : Operand) (ho : o.op = .load ty x) (g off : Nat) (hx : a.eval x = .pointer (some ⟨g, off, none⟩)) (v : Value) (hag : ∀ w, (isAgg ty).run P w = .ok false w) (hc : ∀ w, Mem c L w → w.cell? ⟨g, off, none⟩ = some v)
  (h : KL P ops W Q rest (a.put d v)) : KL P ops W Q (o :: rest) a := by
 refine k_any hw d hd v (fun s => ?_) h
 have hr := run_cell (P := P) (hc s.w (M.keep s.keep)) ty hag
 unfold execOp
 simp only [ho, hx, Sem.run_bind, hr, Result.andThen_ok, Sem.run_pure]
theorem kl_nil (h : Q a) : KL P ops W Q [] a := ⟨h⟩
theorem quiet_of_K : ∀ (l : List Oper) (a : Act), wpK P ops W Q l a → wpQuiet P ops (fun w' => ∃ s : KW W, w' = s.w) Q l a
 | [], _, h => h
 | o :: l, a, h => by
  unfold wpK at h
  unfold wpQuiet
  split
  ·rename_i hw
   rw [if_pos hw] at h
   obtain ⟨v, h1, h2⟩ := h
   refine ⟨v, fun w' => ?_, quiet_of_K l _ h2⟩
   rintro ⟨s, rfl⟩
   have h3 := h1 s
   unfold keepAt at h3
   unfold Oper.quietAt
   generalize (execOp a.eval o).run P s.w = r at *
   cases r with
   | ok x w' =>
    cases x <;> simp only [keepUpon] at h3 <;> simp only [Oper.quietUpon]
    case value => exact h3
    case skip => exact h3
    case enter f args => exact ⟨h3.1, keep_of h3.2⟩
   | halt x w' => simp only [keepUpon] at h3
  ·rename_i hw
   rw [if_neg hw] at h
   exact quiet_of_K l _ h
end
section
variable {P : Program} {W : World} {c : Ctx} {L : List Blk} {Q : Exit → Act → World → Prop} {a : Act}
theorem rg_tail {id : Nat} {l : List Oper} (M : Mem c L W) (n : Nat) (hm : P.follows .mixedOrders = true) (hB : Region.lexTailB .any l.toArray n = true)
  (h0 : KL P l.toArray W (fun a' => ∀ w', Mem c L w' → PL P l.toArray Q (l.drop n) a' w') (l.take n) a) : (Code.region id l.toArray true).wp P Q a W := by
 have h := h0.out
 refine wp_region_keep_tail n hm hB (quiet_of_K _ _ ?_)
 have key : ∀ (l1 : List Oper) (a1 : Act), wpK P l.toArray W (fun a' => ∀ w', Mem c L w' → PL P l.toArray Q (l.drop n) a' w') l1 a1 → wpK P l.toArray W (fun a' => ∀ s : KW W, wpList P l.toArray Q (l.drop n) a' s.w) l1 a1 := by
  intro l1
  induction l1 with
  | nil => intro a1 h1 s; exact (h1 s.w (M.keep s.keep)).out
  | cons o l1 ih =>
   intro a1 h1
   unfold wpK at h1
   unfold wpK
   split
   ·rename_i hw
    rw [if_pos hw] at h1
    obtain ⟨v, h2, h3⟩ := h1
    exact ⟨v, h2, ih _ h3⟩
   ·rename_i hw
    rw [if_neg hw] at h1
    exact ih _ h1
 exact key _ _ h
end
end Go.Proofs.Ytbechjlkmajcoaa

namespace Go.Proofs.Ytbechjlkmajcoaa
open Go.RowKit
def ua (x y : Int) : Int := IntKind.wrap .u64 (x + y)
def uo (x y : Int) : Int := IntKind.wrap .u64 (BitVec.ofInt 64 x ||| BitVec.ofInt 64 y).toNat
def sl (x : Int) (n : Nat) : Int := IntKind.wrap .u64 (x * 2 ^ n)
def sr (x : Int) (n : Nat) : Int := x.fdiv (2 ^ n)
def cv (k : IntKind) (x : Int) : Int := IntKind.wrap k x
section
variable {P : Program} {ops : Array Oper} {rest : List Oper} {o : Oper} {a : Act} {w : World} {c : Ctx} {L : List Blk} {Q : Exit → Act → World → Prop}
theorem au_loop {c : Code} (I : Nat → Act → World → Prop) (N : Nat) (h0 : I 0 a w) (round : ∀ j a w, j < N → I j a w → c.wp P (Exit.then (I (j + 1)) Q) a w) (last : ∀ a w, I N a w → c.wp P (Exit.then (fun _ _ => False) Q) a w) : (Code.loop c).wp P Q a w := by
 refine wp_loop_ghost (fun n a w => n ≤ N ∧ I (N - n) a w) N ⟨Nat.le_refl _, by rw [Nat.sub_self]; exact h0⟩ fun n a w ⟨hn, hI⟩ => ?_
 cases n with
 | zero =>
  rw [Nat.sub_zero] at hI
  refine wp_mono (last a w hI) fun e a' w' hq => ?_
  cases e <;> first | exact hq | exact hq.elim
 | succ n =>
  refine wp_mono (round (N - (n + 1)) a w (by omega) hI) fun e a' w' hq => ?_
  rw [show N - (n + 1) + 1 = N - n by omega] at hq
  cases e <;> first | exact hq | exact ⟨n, by omega, by omega, hq⟩
theorem add_at (g o i : Nat) : (⟨g, o, none⟩ : Addr).add i = ⟨g, o + i, none⟩ := by unfold Addr.add; split <;> simp_all
theorem results_tmp1 {fn : Func} {p : Tmp} (h : fn.results = #[.tmp p]) (tmps : Array Value) (w : World) (v : Value) (hp : tmps.getD p undef = v) : (results fn tmps).run P w = .ok v w := by
 have hp' : tmps[p]?.getD undef = v := by simpa using hp
 simp [results, h, hp']
theorem results_none {fn : Func} (h : fn.results = #[]) (tmps : Array Value) (w : World) : (results fn tmps).run P w = .ok (.tuple #[]) w := by
 simp [results, h]
def bt (s : ByteArray) (i : Nat) : Int := ((s.data[i]?.getD 0).toNat : Int)
theorem bt_nn (s : ByteArray) (i : Nat) : 0 ≤ bt s i ∧ bt s i < 256 := by
 unfold bt
 have := (s.data[i]?.getD 0).toNat_lt
 omega
end
theorem results_tmp2 {P : Program} {fn : Func} {p q : Tmp} (h : fn.results = #[.tmp p, .tmp q]) (tmps : Array Value) (w : World) (v u : Value) (hp : tmps.getD p undef = v) (hq : tmps.getD q undef = u) : (results fn tmps).run P w = .ok (.tuple #[v, u]) w := by
 have hp' : tmps[p]?.getD undef = v := by simpa using hp
 have hq' : tmps[q]?.getD undef = u := by simpa using hq
 simp [results, h, hp', hq']
section
variable {P : Program} {ops : Array Oper} {Q : Exit → Act → World → Prop} {md : Region.Mode} {S : World → Prop} {n : Nat}
def wpAnyL (P : Program) (md : Region.Mode) (ops : Array Oper) (Q : Exit → Act → World → Prop) (S : World → Prop) (n : Nat) : Nat → Array Bool → Act → World → Prop
 | 0, listed, a, w => Region.ready md ops listed = [] ∧ Q .normal a w
 | fuel + 1, listed, a, w =>
  (Region.ready md ops listed = [] → Q .normal a w) ∧
  ∀ i ∈ Region.ready md ops listed, wpOp P ops Q i (fun a' w' => (i < n → S w') ∧ wpAnyL P md ops Q S n fuel (listed.setIfInBounds i true) a' w') a w
theorem wpAny_of_L : ∀ (fuel : Nat) (listed : Array Bool) (a : Act) (w : World), wpAnyL P md ops Q S n fuel listed a w → wpAny P md ops Q fuel listed a w
 | 0, _, _, _, h => h
 | fuel + 1, _, _, _, h => ⟨h.1, fun i hi => wpOp_mono (fun a' w' h' => wpAny_of_L fuel _ a' w' h'.2) (h.2 i hi)⟩
theorem wpAnyL_first {i : Nat} {oi : Oper} {v : Value} (hi : ops[i]? = some oi) (hin : i < n) (hs : Region.sinkB md ops n = true) (hc : Region.chainB md ops n = true) (hn : n < ops.size) (hsel : ∀ (j : Nat) (o : Oper) cs b, ops[j]? = some o → o.op ≠ .select cs b)
  (hQ : ∀ c a w, Q (.panic c) (a.put oi.dst v) w → Q (.panic c) a w) :
  ∀ (fuel : Nat) (listed : Array Bool) (a : Act) (w : World), HeadInv md ops n listed →
   (∀ j oj, ops[j]? = some oj → j ≠ i → listed.getD j true = false → (∀ e ∈ oj.after, Region.binds md e = true → e.on ≠ i) → oi.apart ops oj = true) →
   i ∈ Region.ready md ops listed → YieldsIf P ops S oi v a → S w →
   wpAnyL P md ops Q S n fuel (listed.setIfInBounds i true) (a.put oi.dst v) w → wpAnyL P md ops Q S n (fuel + 1) listed a w := by
 intro fuel
 induction fuel with
 | zero =>
  intro listed a w _ _ hr hy hS H
  refine ⟨fun h => (by rw [h] at hr; cases hr), fun j hj => ?_⟩
  by_cases hji : j = i
  ·subst hji
   exact hy.wpOp hi hS ⟨fun _ => hS, H⟩
  ·have h2 := ready_mono hj hji
   rw [H.1] at h2
   cases h2
 | succ fuel ih =>
  intro listed a w inv hfree hr hy hS H
  refine ⟨fun h => (by rw [h] at hr; cases hr), fun j hj => ?_⟩
  by_cases hji : j = i
  ·subst hji
   exact hy.wpOp hi hS ⟨fun _ => hS, H⟩
  ·have h1 := H.2 j (ready_mono hj hji)
   obtain ⟨hjun, oj, hoj, hall⟩ := mem_ready.1 hj
   have hun := (mem_ready.1 hr).1
   have hjn : j < n := Nat.lt_of_not_le fun h => tail_waits hs hc hn inv _ i rfl hin hun j h hj
   have hnot : ∀ e ∈ oj.after, Region.binds md e = true → e.on ≠ i := fun e he hb heq => by
    have h1 := hall e he hb
    rw [heq, getD_both hun] at h1
    cases h1
   have h2 := wpOp_putIf hoj (hfree j oj hoj hji hjun hnot) (fun cs b => hsel i oi cs b hi) (fun cs b => hsel j oj cs b hoj) hQ hy h1
   have hfree' : ∀ k ok, ops[k]? = some ok → k ≠ i → (listed.setIfInBounds j true).getD k true = false → (∀ e ∈ ok.after, Region.binds md e = true → e.on ≠ i) → oi.apart ops ok = true := fun k ok hk hki hku hkn => by
    refine hfree k ok hk hki ?_ hkn
    by_cases hjk : j = k
    ·subst hjk
     exact hjun
    ·rw [getD_set_ne true hjk] at hku
     exact hku
   refine wpOp_mono (fun a' w' h3 => ⟨fun _ => h3.2.1 hjn, ih (listed.setIfInBounds j true) a' w' (inv.set hj hjn) hfree' (ready_mono hr (Ne.symm hji)) h3.1 (h3.2.1 hjn) ?_⟩) h2
   rw [Array.setIfInBounds_comm _ _ hji]
   exact h3.2.2
end
structure HL (P : Program) (ops : Array Oper) (Q : Exit → Act → World → Prop) (S : World → Prop) (n : Nat) (fuel : Nat) (listed : Array Bool) (a : Act) (w : World) : Prop where
 out : (∀ c a d v w, Q (.panic c) (Act.put a d v) w → Q (.panic c) a w) → (Region.sinkB .any ops n = true ∧ Region.chainB .any ops n = true ∧ n < ops.size ∧ Region.noSelect ops = true) → HeadInv .any ops n listed → wpAnyL P .any ops Q S n fuel listed a w
section
variable {P : Program} {ops : Array Oper} {o : Oper} {a : Act} {w : World} {c : Ctx} {L : List Blk} {Q : Exit → Act → World → Prop} {S : World → Prop} {n fuel : Nat} {listed : Array Bool}
theorem rg_held {id : Nat} {l : List Oper} (M : Mem c L w) (Ls : List Blk) (n : Nat) (hn : l.length = n + 1) (hm : P.follows .mixedOrders = true) (hB : (Region.sinkB .any l.toArray n && Region.chainB .any l.toArray n && Region.noSelect l.toArray) = true) (hQ : ∀ c a d v w, Q (.panic c) (Act.put a d v) w → Q (.panic c) a w)
  (h : ∀ w', Mem c L w' → HL P l.toArray Q (Mem c Ls) n (n + 1) (Array.replicate (n + 1) false) a w') : (Code.region id l.toArray true).wp P Q a w := by
 simp only [Bool.and_eq_true] at hB
 have hsz : l.toArray.size = n + 1 := by simpa using hn
 have inv : HeadInv .any l.toArray n (Array.replicate (n + 1) false) :=
  ⟨by simpa using hn.symm, fun j oj _ hl => (by rw [getD_replicate_false] at hl; cases hl), fun t _ ht => getD_in (by simp; omega) (getD_replicate_false _ _)⟩
 have h2 := (h w.drew M.drew).out hQ ⟨hB.1.1, hB.1.2, by omega, hB.2⟩ inv
 refine wp_region_any hm (wpAny_of_L (S := Mem c Ls) (n := n) _ _ _ _ ?_)
 rw [hsz]
 exact h2
theorem hl_val (M : S w) (i : Nat) (hi : ops.toList[i]? = some o) (hin : i < n) (hf : Region.free .any ops listed i = true) (hr : (Region.ready .any ops listed).contains i = true) (hw : Region.wanted o (yielded ops a.tmps) = true) (d : Option Tmp) (hd : o.dst = d) (v : Value) (hrun : ∀ w, S w → (execOp a.eval o).run P w = .ok (.value v) w)
  (h : HL P ops Q S n fuel (listed.setIfInBounds i true) (a.put d v) w) : HL P ops Q S n (fuel + 1) listed a w := by
 subst hd
 have hi' : ops[i]? = some o := by rw [← Array.getElem?_toList]; exact hi
 have hr' : i ∈ Region.ready .any ops listed := by simpa using hr
 exact ⟨fun hQ hB inv => wpAnyL_first hi' hin hB.1 hB.2.1 hB.2.2.1 (Region.noSelect_spec hB.2.2.2) (fun c a w h => hQ c a _ _ w h) fuel listed a w inv (Region.free_spec hi' hf) hr' (.inl ⟨hw, hrun⟩) M (h.out hQ hB (inv.set hr' hin))⟩
theorem hl_cell {Ls : List Blk} (M : Mem c Ls w) (i : Nat) (hi : ops.toList[i]? = some o) (hin : i < n) (hf : Region.free .any ops listed i = true) (hr : (Region.ready .any ops listed).contains i = true) (hw : Region.wanted o (yielded ops a.tmps) = true) (d : Option Tmp) (hd : o.dst = d) (ty : TypeId) (x : Operand) (ho : o.op = .load ty x) (g off : Nat) (hx : a.eval x = .pointer (some ⟨g, off, none⟩)) (v : Value) (hag : ∀ w, (isAgg ty).run P w = .ok false w) (hc : ∀ w, Mem c Ls w → w.cell? ⟨g, off, none⟩ = some v)
  (h : HL P ops Q (Mem c Ls) n fuel (listed.setIfInBounds i true) (a.put d v) w) : HL P ops Q (Mem c Ls) n (fuel + 1) listed a w :=
 hl_val M i hi hin hf hr hw d hd v (fun w' M' => by
  have hr := run_cell (P := P) (hc w' M') ty hag
  unfold execOp
  simp only [ho, hx, Sem.run_bind, hr, Result.andThen_ok, Sem.run_pure]) h
theorem wp_unthen {X K : Act → World → Prop} (h : o.wp P a w X (Exit.then K Q)) : o.wp P a w X Q := by
 unfold Oper.wp at *
 generalize (execOp a.eval o).run P w = r at *
 cases r with
 | ok n w' =>
  cases n <;> simp only [Oper.upon] at h ⊢ <;>
   first
    | exact h
    | exact Calls.mono h (fun e w'' he => by cases e <;> exact he)
 | halt x w' => cases x <;> simp only [Oper.upon] at h ⊢ <;> exact h
theorem wpOp_one {i : Nat} {K : Act → World → Prop} (hi : ops[i]? = some o) (h : wpList P ops (Exit.then K Q) [o] a w) : wpOp P ops Q i K a w := by
 unfold wpOp
 simp only [hi]
 unfold wpList at h
 split
 ·rename_i hw
  rw [if_pos hw] at h
  rcases h with h | ⟨h, a', w', h2⟩
  ·exact .inl (Oper.wp_mono (fun a' w' h2 => h2) (wp_unthen h))
  ·exact .inr ⟨h, a', w', h2⟩
 ·rename_i hw
  rw [if_neg hw] at h
  exact h
theorem hl_one (i : Nat) (hin : i < n) (hr : Region.ready .any ops listed = [i]) (hi : ops.toList[i]? = some o)
  (h : PL P ops (Exit.then (fun a' w' => S w' ∧ HL P ops Q S n fuel (listed.setIfInBounds i true) a' w') Q) [o] a w) : HL P ops Q S n (fuel + 1) listed a w := by
 refine ⟨fun hQ hB inv => ⟨fun h0 => (by rw [hr] at h0; cases h0), fun j hj => ?_⟩⟩
 have hj' := hj
 rw [hr] at hj
 obtain rfl := List.mem_singleton.1 hj
 refine wpOp_mono (fun a' w' h2 => ⟨fun _ => h2.1, h2.2.out hQ hB (inv.set hj' hin)⟩) (wpOp_one (by rw [← Array.getElem?_toList]; exact hi) h.out)
theorem hl_end (hr : Region.ready .any ops listed = [n]) (hr2 : Region.ready .any ops (listed.setIfInBounds n true) = []) (hi : ops.toList[n]? = some o)
  (h : PL P ops (Exit.then (fun a' w' => Q .normal a' w') Q) [o] a w) : HL P ops Q S n (fuel + 1) listed a w := by
 refine ⟨fun hQ hB inv => ⟨fun h0 => (by rw [hr] at h0; cases h0), fun j hj => ?_⟩⟩
 rw [hr] at hj
 obtain rfl := List.mem_singleton.1 hj
 refine wpOp_mono (fun a' w' h2 => ⟨fun h => absurd h (Nat.lt_irrefl _), ?_⟩) (wpOp_one (by rw [← Array.getElem?_toList]; exact hi) h.out)
 cases fuel with
 | zero => exact ⟨hr2, h2⟩
 | succ f => exact ⟨fun _ => h2, fun k hk => by rw [hr2] at hk; cases hk⟩
end
end Go.Proofs.Ytbechjlkmajcoaa

/- The steps of a walk, said shortly: what is asked by the kernel alone is not written down. -/
namespace Go.Proofs.Ytbechjlkmajcoaa
open Go.RowKit

/-- What an operation is in every world. -/
structure Rn (P : Program) (a : Act) (o : Oper) (v : Value) : Prop where
  out : ∀ w, (execOp a.eval o).run P w = .ok (.value v) w
/-- Which function an operation calls. -/
structure Rc (P : Program) (a : Act) (o : Oper) (f : FuncId) (xs : Array Value) : Prop where
  out : ∀ w, (execOp a.eval o).run P w = .ok (.enter f xs) w
structure Ra (P : Program) (a : Act) (o : Oper) (Z : Obj) : Prop where
  out : ∀ w, (execOp a.eval o).run P w = .ok (.value (.pointer (some ⟨w.heap.size, 0, none⟩))) (w.alloc Z)
structure Ev (a : Act) (x : Operand) (v : Value) : Prop where
  out : a.eval x = v
structure Na (P : Program) (ty : TypeId) : Prop where
  out : ∀ w, (isAgg ty).run P w = .ok false w
theorem isRow_of {P : Program} {ty : TypeId} (h : (P.underlying ty).map TypeDesc.isRow = some true) : ∃ t, P.underlying ty = some t ∧ t.isRow = true := by
  cases e : P.underlying ty with
  | none => rw [e] at h; cases h
  | some t => rw [e] at h; exact ⟨t, rfl, by simpa using h⟩
section
variable {P : Program} {ops : Array Oper} {rest : List Oper} {o : Oper} {a : Act} {w W : World} {c : Ctx} {L : List Blk} {Q : Exit → Act → World → Prop} {K : Act → World → Prop} {R : Act → Prop}
theorem pV (d : Tmp) (v : Value) (h : PL P ops Q rest (a.put (some d) v) w) (hw : Region.wanted o (yielded ops a.tmps) = true := by exact want_no rfl) (hd : o.dst = some d := by exact rfl) (hr : Rn P a o v := by exact ⟨fun _ => by kernel_rfl⟩) : PL P ops Q (o :: rest) a w := pl_val hw (some d) hd v hr.out h
theorem kV (d : Tmp) (v : Value) (h : KL P ops W R rest (a.put (some d) v)) (hw : Region.wanted o (yielded ops a.tmps) = true := by exact want_no rfl) (hd : o.dst = some d := by exact rfl) (hr : Rn P a o v := by exact ⟨fun _ => by kernel_rfl⟩) : KL P ops W R (o :: rest) a := k_val hw (some d) hd v hr.out h
theorem nT (h : K a w) : PL P ops (Exit.then K Q) [] a w := pl_nil (au_then h)
theorem sR {id : Nat} {l : List Oper} {y : Code} (h : PL P l.toArray (Exit.then (y.wp P Q) Q) l a w) : (Code.seq (Code.region id l.toArray false) y).wp P Q a w := wp_seq (rg_lit h)
theorem pN (M : Mem c L w) (d : Tmp) (Z : Obj) (h : ∀ g w', Mem c (L ++ [⟨g, Z⟩]) w' → PL P ops Q rest (a.put (some d) (.pointer (some ⟨g, 0, none⟩))) w') (hw : Region.wanted o (yielded ops a.tmps) = true := by exact want_no rfl) (hd : o.dst = some d := by exact rfl) (hr : Ra P a o Z := by exact ⟨fun _ => by kernel_rfl⟩) : PL P ops Q (o :: rest) a w := pl_new M hw (some d) hd Z hr.out h
theorem pC (M : Mem c L w) (d : Tmp) (f : FuncId) (xs : Array Value) (v : Value) (hc : ∀ w, Mem c L w → Calls P f xs w fun e w' => e = .returned v ∧ Below w.heap.size w w') (h : ∀ w', Mem c L w' → PL P ops Q rest (a.put (some d) v) w') (hw : Region.wanted o (yielded ops a.tmps) = true := by exact want_no rfl) (hd : o.dst = some d := by exact rfl) (hr : Rc P a o f xs := by exact ⟨fun _ => by kernel_rfl⟩) : PL P ops Q (o :: rest) a w := pl_call M hw (some d) hd f xs v hr.out hc h
theorem kC (M : Mem c L W) (d : Tmp) (f : FuncId) (xs : Array Value) (v : Value) (hc : ∀ w, Mem c L w → Calls P f xs w fun e w' => e = .returned v ∧ Below w.heap.size w w') (h : KL P ops W R rest (a.put (some d) v)) (hw : Region.wanted o (yielded ops a.tmps) = true := by exact want_no rfl) (hd : o.dst = some d := by exact rfl) (hr : Rc P a o f xs := by exact ⟨fun _ => by kernel_rfl⟩) : KL P ops W R (o :: rest) a := k_call M hw (some d) hd f xs v hr.out hc h
theorem pEz (M : Mem c L w) (d : Tmp) (g off : Nat) (v : Value) (hc : ∀ w, Mem c L w → w.cell? ⟨g, off, none⟩ = some v) (h : PL P ops Q rest (a.put (some d) v) w) {ty : TypeId} {x : Operand} (hw : Region.wanted o (yielded ops a.tmps) = true := by exact want_no rfl) (hd : o.dst = some d := by exact rfl) (ho : o.op = .load ty x := by exact rfl) (hx : Ev a x (.pointer (some ⟨g, off, none⟩)) := by exact ⟨by kernel_rfl⟩) (ha : Na P ty := by exact ⟨fun _ => by kernel_rfl⟩) : PL P ops Q (o :: rest) a w := pl_cell M hw (some d) hd ty x ho g off hx.out v ha.out hc h
theorem kE (M : Mem c L W) (d : Tmp) (g off : Nat) (v : Value) (hc : ∀ w, Mem c L w → w.cell? ⟨g, off, none⟩ = some v) (h : KL P ops W R rest (a.put (some d) v)) {ty : TypeId} {x : Operand} (hw : Region.wanted o (yielded ops a.tmps) = true := by exact want_no rfl) (hd : o.dst = some d := by exact rfl) (ho : o.op = .load ty x := by exact rfl) (hx : Ev a x (.pointer (some ⟨g, off, none⟩)) := by exact ⟨by kernel_rfl⟩) (ha : Na P ty := by exact ⟨fun _ => by kernel_rfl⟩) : KL P ops W R (o :: rest) a := k_cell M hw (some d) hd ty x ho g off hx.out v ha.out hc h
theorem pL (M : Mem c L w) (d : Tmp) (i : Nat) {g n T : Nat} {F : Nat → Value} (hi : L[i]? = some ⟨g, .cells (av n F) T⟩) (off k : Nat) (F' : Nat → Value) (hp : ∀ j, j < k → F (off + j) = F' j) (h : PL P ops Q rest (a.put (some d) (.agg (av k F'))) w) {ty : TypeId} {x : Operand} (hw : Region.wanted o (yielded ops a.tmps) = true := by exact want_no rfl) (hd : o.dst = some d := by exact rfl) (ho : o.op = .load ty x := by exact rfl) (hx : Ev a x (.pointer (some ⟨g, off, none⟩)) := by exact ⟨by kernel_rfl⟩) (hk : off + k ≤ n := by decide) (hu : (P.underlying ty).map TypeDesc.isRow = some true := by kernel_rfl) (hz : (P.info? ty).map (·.size) = some k := by kernel_rfl) : PL P ops Q (o :: rest) a w := by
  obtain ⟨t, h1, h2⟩ := isRow_of hu
  exact pl_load M hw (some d) hd ty x ho i g off hx.out n T F hi k F' hp hk t h1 h2 hz h
theorem kL (M : Mem c L W) (d : Tmp) (i : Nat) {g n T : Nat} {F : Nat → Value} (hi : L[i]? = some ⟨g, .cells (av n F) T⟩) (off k : Nat) (F' : Nat → Value) (hp : ∀ j, j < k → F (off + j) = F' j) (h : KL P ops W R rest (a.put (some d) (.agg (av k F')))) {ty : TypeId} {x : Operand} (hw : Region.wanted o (yielded ops a.tmps) = true := by exact want_no rfl) (hd : o.dst = some d := by exact rfl) (ho : o.op = .load ty x := by exact rfl) (hx : Ev a x (.pointer (some ⟨g, off, none⟩)) := by exact ⟨by kernel_rfl⟩) (hk : off + k ≤ n := by decide) (hu : (P.underlying ty).map TypeDesc.isRow = some true := by kernel_rfl) (hz : (P.info? ty).map (·.size) = some k := by kernel_rfl) : KL P ops W R (o :: rest) a := by
  obtain ⟨t, h1, h2⟩ := isRow_of hu
  exact k_load M hw (some d) hd ty x ho i g off hx.out n T F hi k F' hp hk t h1 h2 hz h
theorem pAz (M : Mem c L w) (d : Tmp) (i n : Nat) (F : Nat → Value) (h : PL P ops Q rest (a.put (some d) (.agg (av n F))) w) {g T : Nat} {ty : TypeId} {x : Operand} (hw : Region.wanted o (yielded ops a.tmps) = true := by exact want_no rfl) (hd : o.dst = some d := by exact rfl) (ho : o.op = .load ty x := by exact rfl) (hi : L[i]? = some ⟨g, .cells (av n F) T⟩ := by exact rfl) (hx : Ev a x (.pointer (some ⟨g, 0, none⟩)) := by exact ⟨by kernel_rfl⟩) (hu : (P.underlying ty).map TypeDesc.isRow = some true := by kernel_rfl) (hz : (P.info? ty).map (·.size) = some n := by kernel_rfl) : PL P ops Q (o :: rest) a w := by
  obtain ⟨t, h1, h2⟩ := isRow_of hu
  exact pl_load M hw (some d) hd ty x ho i g 0 hx.out n T F hi n F (fun j _ => by rw [Nat.zero_add]) (by omega) t h1 h2 hz h
theorem kA (M : Mem c L W) (d : Tmp) (i n : Nat) (F : Nat → Value) (h : KL P ops W R rest (a.put (some d) (.agg (av n F)))) {g T : Nat} {ty : TypeId} {x : Operand} (hw : Region.wanted o (yielded ops a.tmps) = true := by exact want_no rfl) (hd : o.dst = some d := by exact rfl) (ho : o.op = .load ty x := by exact rfl) (hi : L[i]? = some ⟨g, .cells (av n F) T⟩ := by exact rfl) (hx : Ev a x (.pointer (some ⟨g, 0, none⟩)) := by exact ⟨by kernel_rfl⟩) (hu : (P.underlying ty).map TypeDesc.isRow = some true := by kernel_rfl) (hz : (P.info? ty).map (·.size) = some n := by kernel_rfl) : KL P ops W R (o :: rest) a := by
  obtain ⟨t, h1, h2⟩ := isRow_of hu
  exact k_load M hw (some d) hd ty x ho i g 0 hx.out n T F hi n F (fun j _ => by rw [Nat.zero_add]) (by omega) t h1 h2 hz h
theorem pP (M : Mem c L w) (i : Nat) {g n T : Nat} {F : Nat → Value} (hi : L[i]? = some ⟨g, .cells (av n F) T⟩) (off : Nat) (v : Value) (Fn : Nat → Value) (hk : off < n) (hfn : ∀ j, j < n → (if j = off then v else F j) = Fn j) (h : ∀ w', Mem c (L.set i ⟨g, .cells (av n Fn) T⟩) w' → PL P ops Q rest a w') {ty : TypeId} {x y : Operand} (hw : Region.wanted o (yielded ops a.tmps) = true := by exact want_no rfl) (hd : o.dst = none := by exact rfl) (ho : o.op = .store ty x y := by exact rfl) (hx : Ev a x (.pointer (some ⟨g, off, none⟩)) := by exact ⟨by kernel_rfl⟩) (hy : Ev a y v := by exact ⟨by kernel_rfl⟩) (hz : (P.info? ty).map (·.size) = some 1 := by kernel_rfl) (h1 : v.oneCell' = true := by exact rfl) (hc : v.cells = #[v] := by exact rfl) : PL P ops Q (o :: rest) a w :=
  pl_put1 M hw hd ty x y ho i g off hx.out n T F hi v Fn hy.out hz hk h1 hc hfn h
theorem pH (d : Tmp) (v : Value) (hr : ∀ w, (execOp a.eval o).run P w = .ok (.value v) w) (h : PL P ops Q rest (a.put (some d) v) w) (hw : Region.wanted o (yielded ops a.tmps) = true := by exact want_no rfl) (hd : o.dst = some d := by exact rfl) : PL P ops Q (o :: rest) a w := pl_val hw (some d) hd v hr h
theorem kH (d : Tmp) (v : Value) (hr : ∀ w, (execOp a.eval o).run P w = .ok (.value v) w) (h : KL P ops W R rest (a.put (some d) v)) (hw : Region.wanted o (yielded ops a.tmps) = true := by exact want_no rfl) (hd : o.dst = some d := by exact rfl) : KL P ops W R (o :: rest) a := k_val hw (some d) hd v hr h
theorem dTz (p : Prop) [Decidable p] (hp : p) (hr : Rn P a o (.bool (decide p)) := by exact ⟨fun _ => by kernel_rfl⟩) (w : World) : (execOp a.eval o).run P w = .ok (.value (.bool true)) w := (hr.out w).trans (by rw [decide_eq_true hp])
theorem dF (p : Prop) [Decidable p] (hp : ¬ p) (hr : Rn P a o (.bool (decide p)) := by exact ⟨fun _ => by kernel_rfl⟩) (w : World) : (execOp a.eval o).run P w = .ok (.value (.bool false)) w := (hr.out w).trans (by rw [decide_eq_false hp])
theorem nF (p : Prop) [Decidable p] (hp : p) (hr : Rn P a o (.bool (!(decide p))) := by exact ⟨fun _ => by kernel_rfl⟩) (w : World) : (execOp a.eval o).run P w = .ok (.value (.bool false)) w := (hr.out w).trans (by rw [decide_eq_true hp]; rfl)
theorem nU (p : Prop) [Decidable p] (hp : ¬ p) (hr : Rn P a o (.bool (!(decide p))) := by exact ⟨fun _ => by kernel_rfl⟩) (w : World) : (execOp a.eval o).run P w = .ok (.value (.bool true)) w := (hr.out w).trans (by rw [decide_eq_false hp]; rfl)
theorem iV (x : Int) {v : Int} (h : x = v) (h0 : -9223372036854775808 ≤ x) (h1 : x < 9223372036854775808) (hr : Rn P a o (.int .i64 (IntKind.wrap .i64 x)) := by exact ⟨fun _ => by kernel_rfl⟩) (w : World) : (execOp a.eval o).run P w = .ok (.value (.int .i64 v)) w := (hr.out w).trans (by
  rw [show IntKind.wrap .i64 x = x by simp [IntKind.wrap, IntKind.signed, IntKind.bits, go_sem]; omega, h])
end
section
variable {P : Program} {ops : Array Oper} {o : Oper} {a : Act} {w : World} {Q : Exit → Act → World → Prop} {S : World → Prop} {n fuel : Nat} {listed : Array Bool}
theorem qV (M : S w) (i : Nat) (d : Tmp) (v : Value) (h : HL P ops Q S n fuel (listed.setIfInBounds i true) (a.put (some d) v) w) (hi : ops.toList[i]? = some o := by exact rfl) (hin : i < n := by decide) (hf : Region.free .any ops listed i = true := by kernel_rfl) (hr : (Region.ready .any ops listed).contains i = true := by kernel_rfl) (hw : Region.wanted o (yielded ops a.tmps) = true := by exact want_no rfl) (hd : o.dst = some d := by exact rfl) (hrun : Rn P a o v := by exact ⟨fun _ => by kernel_rfl⟩) : HL P ops Q S n (fuel + 1) listed a w := hl_val M i hi hin hf hr hw (some d) hd v (fun w _ => hrun.out w) h
end
end Go.Proofs.Ytbechjlkmajcoaa

namespace Go.Proofs.Ytbechjlkmajcoaa
open Go.RowKit
structure SB (Z : Obj) (cap : Nat) (l : List Value) : Prop where
 ex : ∃ cs T fr, Z = .cells cs T fr ∧ l.length ≤ cap ∧ cap ≤ cs.size ∧ (∀ i, i < l.length → cs[i]? = l[i]?) ∧ ∀ i, i < cap → (decide (fr.1 ≤ i) && decide (i < fr.2)) = false
theorem SB.le {Z : Obj} {cap : Nat} {l : List Value} (h : SB Z cap l) : l.length ≤ cap := by
 obtain ⟨_, _, _, _, h1, _⟩ := h.ex
 exact h1
theorem SB.cell {Z : Obj} {cap : Nat} {l : List Value} (h : SB Z cap l) {W : World} {g : Nat} (hz : W.heap[g]? = some Z) {i : Nat} {v : Value} (hi : l[i]? = some v) : W.cell? ⟨g, i, none⟩ = some v := by
 obtain ⟨cs, T, fr, rfl, _, _, h3, _⟩ := h.ex
 have hlt := (List.getElem?_eq_some_iff.1 hi).1
 unfold World.cell?
 rw [hz]
 simp only [Option.isSome_none, Bool.false_eq_true, if_false]
 rw [h3 i hlt, hi]
def bs (ns : List Int) : ByteArray := ⟨(ns.map fun n => UInt8.ofNat n.toNat).toArray⟩
def sb (s : ByteArray) : List Int := s.data.toList.map fun b => (b.toNat : Int)
def vs8 (l : List Int) : List Value := l.map fun x => .int .u8 x
theorem bs_size (l : List Int) : (bs l).size = l.length := by simp [bs, ByteArray.size]
theorem sb_length (s : ByteArray) : (sb s).length = s.size := by simp [sb]
theorem vs8_length (l : List Int) : (vs8 l).length = l.length := by simp [vs8]
theorem sb_get (s : ByteArray) (i : Nat) (h : i < s.size) : (sb s)[i]? = some (bt s i) := by
 have h' : i < s.data.size := h
 unfold sb bt
 rw [List.getElem?_map, Array.getElem?_toList, Array.getElem?_eq_getElem h']
 rfl
theorem sb_bs (l : List Int) (h : ∀ x ∈ l, 0 ≤ x ∧ x < 256) : sb (bs l) = l := by
 unfold sb bs
 rw [List.map_map]
 conv => rhs; rw [← List.map_id l]
 refine List.map_congr_left fun x hx => ?_
 have := h x hx
 simp
 omega
theorem bs_sb (s : ByteArray) : bs (sb s) = s := by
 unfold sb bs
 rw [List.map_map]
 apply ByteArray.ext
 simp only
 conv => rhs; rw [← Array.toArray_toList (xs := s.data)]
 congr 1
 conv => rhs; rw [← List.map_id s.data.toList]
 refine List.map_congr_left fun x _ => ?_
 simp
theorem bt_of_sb (s : ByteArray) (i : Nat) : bt s i = (sb s).getD i 0 := by
 by_cases h : i < s.size
 ·rw [List.getD_eq_getElem?_getD, sb_get s i h]
  rfl
 ·have h' : s.data.size ≤ i := by have : s.data.size = s.size := rfl; omega
  rw [List.getD_eq_getElem?_getD, List.getElem?_eq_none (by rw [sb_length]; omega)]
  unfold bt
  rw [Array.getElem?_eq_none h']
  rfl
theorem sb_append (s t : ByteArray) : sb (s ++ t) = sb s ++ sb t := by
 unfold sb
 rw [← List.map_append]
 congr 1
section
variable {P : Program} {ops : Array Oper} {rest : List Oper} {o : Oper} {a : Act} {w : World} {c : Ctx} {L : List Blk} {Q : Exit → Act → World → Prop}
theorem rounds_go {c : Code} {n : Nat} (h : c.wp P (Exit.then (Code.rounds P c Q n) Q) a w) : Code.rounds P c Q (n + 1) a w := h
theorem setCells_block (g : Nat) (T : TypeId) (fr : Nat × Nat) : ∀ (vs : List Value) (W : World) (cs : Array Value) (o : Nat), W.heap[g]? = some (.cells cs T fr) → ∃ ds, (W.setCells g o vs).heap[g]? = some (.cells ds T fr) ∧ ds.size = cs.size ∧ ∀ i, ds[i]? = if o ≤ i ∧ i < o + vs.length ∧ i < cs.size then vs[i - o]? else cs[i]?
 | [], W, cs, o, h => ⟨cs, h, rfl, fun i => by rw [if_neg (by simp; omega)]⟩
 | v :: vs, W, cs, o, h => by
  have h1 : (W.setCell ⟨g, o, none⟩ v).heap[g]? = some (.cells (cs.setIfInBounds o v) T fr) := by simp [World.setCell, Array.getElem?_modify, h]
  obtain ⟨ds, h2, h3, h4⟩ := setCells_block g T fr vs _ _ (o + 1) h1
  refine ⟨ds, h2, by simpa using h3, fun i => ?_⟩
  rw [h4 i]
  simp only [Array.size_setIfInBounds, List.length_cons]
  by_cases hi : o + 1 ≤ i ∧ i < o + 1 + vs.length ∧ i < cs.size
  ·rw [if_pos hi, if_pos (by omega), show i - o = (i - (o + 1)) + 1 by omega, List.getElem?_cons_succ]
  ·rw [if_neg hi, Array.getElem?_setIfInBounds]
   by_cases e : o = i
   ·subst e
    by_cases hs : o < cs.size
    ·rw [if_pos rfl, if_pos hs, if_pos (by omega), Nat.sub_self]
     rfl
    ·rw [if_pos rfl, if_neg hs, if_neg (by omega)]
     exact (Array.getElem?_eq_none (by omega)).symm
   ·rw [if_neg e, if_neg (by omega)]
theorem set_perm {α : Type} : ∀ (L : List α) (i : Nat) (b : α), i < L.length → (L.set i b).Perm (L.eraseIdx i ++ [b])
 | [], _, _, h => absurd h (by simp)
 | x :: L, 0, b, _ => by
  simp only [List.set_cons_zero, List.eraseIdx_cons_zero]
  exact (List.perm_append_comm (l₁ := [b]) (l₂ := L))
 | x :: L, i + 1, b, h => by
  simp only [List.set_cons_succ, List.eraseIdx_cons_succ, List.cons_append]
  exact (set_perm L i b (by simpa using h)).cons x
end
section
variable {ops : Array Oper} {rest : List Oper} {o : Oper} {a : Act} {w : World} {c : Ctx} {L : List Blk} {Q : Exit → Act → World → Prop}
theorem pl_conv (M : Mem c L w) (hw : Region.wanted o (yielded ops a.tmps) = true) (d : Option Tmp) (hd : o.dst = d) (x : Operand) (ho : o.op = .convert 9 49 x) (s : ByteArray) (hx : a.eval x = .string s)
  (h : ∀ g cap Z w', SB Z cap (vs8 (sb s)) → Mem c (L ++ [⟨g, Z⟩]) w' → PL Try.prog ops Q rest (a.put d (.slice (some ⟨g, 0, none⟩) s.size cap)) w') : PL Try.prog ops Q (o :: rest) a w := by
 have hr := run_bytes_of_string (P := Try.prog) w 9 49 5 s Try.underlying9 Try.underlying49 Try.underlying5
 have hge : s.size ≤ grownCap w s.size 0 5 := grownCap_ge w s.size 0 5
 generalize grownCap w s.size 0 5 = cap at hr hge
 refine pl_to hw d hd _ _ (by unfold execOp; simp only [ho, hx, Sem.run_bind, hr, Result.andThen_ok, Sem.run_pure]) (h w.heap.size cap (.cells (bytesRow s cap) 5 ((bytesRow s cap).size, (bytesRow s cap).size + 1)) _ ⟨_, _, _, rfl, by rw [vs8_length, sb_length]; exact hge, ?_, fun i hi => ?_, fun i hi => ?_⟩ (M.drew.new _ _ (new_below _ _) (heap_alloc_new w.drew _) (Nat.le_refl _)))
 ·have hs : s.size = s.data.size := rfl
  simp [bytesRow]
  omega
 ·rw [vs8_length, sb_length] at hi
  have hi' : i < s.data.size := hi
  unfold bytesRow vs8
  rw [Array.getElem?_append_left (by simpa using hi'), Array.getElem?_map, Array.getElem?_eq_getElem hi', List.getElem?_map, sb_get s i hi]
  unfold bt
  rw [Array.getElem?_eq_getElem hi']
  rfl
 ·have hs : s.size = s.data.size := rfl
  have hsz : cap ≤ (bytesRow s cap).size := by
   simp [bytesRow]
   omega
  simp
  omega
set_option maxRecDepth 100000 in
theorem pl_back (M : Mem c L w) (hw : Region.wanted o (yielded ops a.tmps) = true) (d : Option Tmp) (hd : o.dst = d) (x : Operand) (ho : o.op = .convert 49 9 x) (i g n cap : Nat) (hx : a.eval x = .slice (some ⟨g, 0, none⟩) n cap) (Z : Obj) (hi : L[i]? = some ⟨g, Z⟩) (l : List Int) (cp : Nat) (hs : SB Z cp (vs8 l)) (hn : l.length = n) (hf : ∀ x ∈ l, 0 ≤ x ∧ x < 256)
  (h : PL Try.prog ops Q rest (a.put d (.string (bs l))) w) : PL Try.prog ops Q (o :: rest) a w := by
 subst hn
 refine pl_to hw d hd _ w ?_ h
 have hl : (l.map fun n => UInt8.ofNat n.toNat).length = l.length := by simp
 have h2 := run_convert_bytes_back (P := Try.prog) w 49 9 5 ⟨g, 0, none⟩ cap (l.map fun n => UInt8.ofNat n.toNat) Try.underlying49 Try.underlying5 Try.underlying9 (fun j hj => by
  rw [hl] at hj
  have hv : (vs8 l)[j]? = some (.int .u8 (l[j]'hj)) := by
   unfold vs8
   rw [List.getElem?_map, List.getElem?_eq_getElem hj]
   rfl
  rw [add_at, Nat.zero_add, hs.cell (M.get i hi) hv]
  have := hf _ (List.getElem_mem hj)
  simp
  omega)
 rw [hl] at h2
 unfold execOp
 simp only [ho, hx, Sem.run_bind, h2, Result.andThen_ok, Sem.run_pure]
 rfl
end
end Go.Proofs.Ytbechjlkmajcoaa

namespace Go.Proofs.Ytbechjlkmajcoaa
open Go.RowKit
theorem inz4 : (Try.prog.info? 4).map (·.size) = some 1 := by kernel_rfl
theorem inz5 : (Try.prog.info? 5).map (·.size) = some 1 := by kernel_rfl
theorem inz9 : (Try.prog.info? 9).map (·.size) = some 1 := by kernel_rfl
theorem inz22 : (Try.prog.info? 22).map (·.size) = some 1 := by kernel_rfl
theorem inz23 : (Try.prog.info? 23).map (·.size) = some 1 := by kernel_rfl
theorem inz25 : (Try.prog.info? 25).map (·.size) = some 3 := by kernel_rfl
theorem inz26 : (Try.prog.info? 26).map (·.size) = some 1 := by kernel_rfl
theorem inz28 : (Try.prog.info? 28).map (·.size) = some 4 := by kernel_rfl
theorem inz30 : (Try.prog.info? 30).map (·.size) = some 17 := by kernel_rfl
theorem inz33 : (Try.prog.info? 33).map (·.size) = some 1 := by kernel_rfl
theorem inz49 : (Try.prog.info? 49).map (·.size) = some 1 := by kernel_rfl
theorem inz54 : (Try.prog.info? 54).map (·.size) = some 1 := by kernel_rfl
theorem inz55 : (Try.prog.info? 55).map (·.size) = some 1 := by kernel_rfl
theorem inz65 : (Try.prog.info? 65).map (·.size) = some 2 := by kernel_rfl
theorem inz86 : (Try.prog.info? 86).map (·.size) = some 6 := by kernel_rfl
theorem inz122 : (Try.prog.info? 122).map (·.size) = some 7 := by kernel_rfl
theorem wrap64 {x : Int} (h0 : -9223372036854775808 ≤ x) (h1 : x < 9223372036854775808) : IntKind.wrap .i64 x = x := by
 simp [IntKind.wrap, IntKind.signed, IntKind.bits, go_sem]
 omega
theorem run_ixL {P : Program} {a : Act} {o : Oper} (t elem : TypeId) (hu : P.underlying t = some (.slice elem)) (hs : (P.info? elem).map (·.size) = some 1) (x ix : Operand) (ho : o.op = .indexAddr t x ix) (g off len cap : Nat) (hx : a.eval x = .slice (some ⟨g, off, none⟩) len cap) (k : IntKind) (i : Nat) (hi : a.eval ix = .int k (i : Int)) (hlt : i < len) (w : World) :
  (execOp a.eval o).run P w = .ok (.value (.pointer (some ⟨g, off + i, none⟩))) w := by
 cases hq : P.info? elem with
 | none => simp [hq] at hs
 | some u =>
  have hsz : u.size = 1 := by simpa [hq] using hs
  unfold execOp
  simp [ho, hx, hi, Instr.indexAt, asIntOf, run_underlying hu, sizeOf, typeInfo, hq, hsz, add_at, hlt]
theorem run_strl {P : Program} {a : Act} {o : Oper} (t : TypeId) (hu : P.underlying t = some .string) (x lo : Operand) (ho : o.op = .slice t x (some lo) none none) (s : ByteArray) (hx : a.eval x = .string s) (k : IntKind) (i : Nat) (hi : a.eval lo = .int k (i : Int)) (hle : i ≤ s.size) (v : ByteArray) (hv : s.extract i s.size = v) (w : World) :
  (execOp a.eval o).run P w = .ok (.value (.string v)) w := by
 subst hv
 unfold execOp
 simp [ho, hx, hi, run_sliceAt_string w t (.string s) (some (.int k i)) none none hu, run_slice_string_l w t s hu k i (by omega) (by omega)]
theorem run_strh {P : Program} {a : Act} {o : Oper} (t : TypeId) (hu : P.underlying t = some .string) (x hi : Operand) (ho : o.op = .slice t x none (some hi) none) (s : ByteArray) (hx : a.eval x = .string s) (k : IntKind) (i : Nat) (hh : a.eval hi = .int k (i : Int)) (hle : i ≤ s.size) (v : ByteArray) (hv : s.extract 0 i = v) (w : World) :
  (execOp a.eval o).run P w = .ok (.value (.string v)) w := by
 subst hv
 unfold execOp
 simp [ho, hx, hh, run_sliceAt_string w t (.string s) none (some (.int k i)) none hu, run_slice_string_h w t s hu k i (by omega) (by omega)]
theorem run_cat {P : Program} {a : Act} {o : Oper} (t rt : TypeId) (x y : Operand) (ho : o.op = .binOp .add t x y rt) (s u : ByteArray) (hx : a.eval x = .string s) (hy : a.eval y = .string u) (hb : s.size + u.size ≤ 9223372036854775807) (w : World) :
  (execOp a.eval o).run P w = .ok (.value (.string (s ++ u))) w := by
 have h := run_string_add_sum (P := P) (w := w) s u hb
 unfold execOp
 simp [ho, hx, hy, eqGuard, binOp, h]
theorem run_ix0 {P : Program} {a : Act} {o : Oper} (t elem : TypeId) (hu : P.underlying t = some (.slice elem)) (hs : (P.info? elem).map (·.size) = some 1) (x ix : Operand) (ho : o.op = .indexAddr t x ix) (g len cap : Nat) (hx : a.eval x = .slice (some ⟨g, 0, none⟩) len cap) (k : IntKind) (i : Nat) (hi : a.eval ix = .int k (i : Int)) (hlt : i < len) (w : World) :
  (execOp a.eval o).run P w = .ok (.value (.pointer (some ⟨g, i, none⟩))) w := by
 have h := run_ixL (P := P) t elem hu hs x ix ho g 0 len cap hx k i hi hlt w
 rwa [Nat.zero_add] at h
section
variable {P : Program} {ops : Array Oper} {rest : List Oper} {o : Oper} {a : Act} {w : World} {c : Ctx} {L : List Blk} {Q : Exit → Act → World → Prop}
end
end Go.Proofs.Ytbechjlkmajcoaa

namespace Go.Proofs.Ytbechjlkmajcoaa
open Go.RowKit
def ls (l : List Value) : Nat → Value := fun i => l.getD i undef
theorem getD_app (l : List Value) (j : Nat) : l.getD j undef = l[j]?.getD undef := by simp
theorem part_ls (l : List Value) (off n : Nat) (l' : List Value) (h : (l.drop off).take n = l') (j : Nat) (hj : j < n) : ls l (off + j) = ls l' j := by
 subst h
 unfold ls
 rw [getD_app, getD_app, List.getElem?_take, if_pos hj, List.getElem?_drop]
theorem put_ls (l : List Value) (k : Nat) (v : Value) (l' : List Value) (h : l.set k v = l') {n : Nat} (j : Nat) (hj : j < n) (hl : n ≤ l.length := by exact Nat.le_of_ble_eq_true rfl) : (if j = k then v else ls l j) = ls l' j := by
 subst h
 unfold ls
 rw [getD_app, getD_app, List.getElem?_set]
 by_cases e : k = j
 ·subst e
  rw [if_pos rfl, if_pos rfl, if_pos (by omega)]
  rfl
 ·rw [if_neg (fun h => e h.symm), if_neg e]
theorem putp_ls (l m : List Value) (off : Nat) (l' : List Value) (h : l.take off ++ m ++ l.drop (off + m.length) = l') {n : Nat} (hl : n ≤ l.length ∧ off + m.length ≤ l.length) (j : Nat) (hj : j < n) : (if off ≤ j ∧ j < off + m.length then ls m (j - off) else ls l j) = ls l' j := by
 subst h
 unfold ls
 simp only [getD_app]
 have e1 : (l.take off).length = off := by simp; omega
 by_cases c : off ≤ j ∧ j < off + m.length
 ·rw [if_pos c, List.append_assoc, List.getElem?_append_right (by omega), e1, List.getElem?_append_left (by omega)]
 ·rw [if_neg c]
  by_cases d : j < off
  ·rw [List.append_assoc, List.getElem?_append_left (by omega), List.getElem?_take, if_pos d]
  ·rw [List.getElem?_append_right (by simp; omega), List.getElem?_drop]
   congr 2
   simp
   omega
theorem one_ls (l : List Value) (h : l.all (·.oneCell') = true) {n : Nat} (hn : n ≤ l.length := by exact Nat.le_of_ble_eq_true rfl) (j : Nat) (hj : j < n) : (ls l j).oneCell' = true := by
 unfold ls
 rw [getD_app, List.getElem?_eq_getElem (by omega)]
 exact List.all_eq_true.1 h _ (List.getElem_mem _)
theorem sb_ls (l : List Int) (T : TypeId) {n : Nat} (hn : n = l.length := by rfl) : SB (.cells (av n (ls (vs8 l))) T) n (vs8 l) := by
 subst hn
 refine ⟨_, T, (0, 0), rfl, by simp [vs8], by rw [av_size]; exact Nat.le_refl _, fun i hi => ?_, fun i _ => by simp⟩
 rw [vs8_length] at hi
 rw [av_get _ _ _ hi]
 unfold ls
 rw [getD_app, List.getElem?_eq_getElem (by rw [vs8_length]; exact hi)]
 rfl
theorem seq_pos {a b : ByteArray} (h : a = b) : (a.toList == b.toList) = true := by rw [h, beq_self_eq_true]
theorem seq_neg {a b : ByteArray} (h : ¬ a = b) : (a.toList == b.toList) = false := by
 rw [beq_eq_false_iff_ne]
 intro e
 rw [ByteArray.toList_eq, ByteArray.toList_eq] at e
 exact h (ByteArray.ext (Array.toList_inj.1 e))
theorem call_val {P : Program} {f : FuncId} {args : Array Value} {w : World} {v v' : Value} {X : World → Prop} (h : Calls P f args w fun e w' => e = .returned v ∧ X w') (hv : v = v') : Calls P f args w fun e w' => e = .returned v' ∧ X w' := hv ▸ h
theorem nat_of {k : IntKind} {x : Int} {v : Value} (h : v = .int k x) (h0 : 0 ≤ x) : v = .int k (x.toNat : Int) := by rw [h, Int.toNat_of_nonneg h0]
theorem ro_below1 {w w' : World} {g : Nat} {Z : Obj} (h : Grw w w' [g]) (h0 : w.heap[g]? = some Z) (h1 : w'.heap[g]? = some Z) : Below w.heap.size w w' := ⟨h.os, h.tape, h.output, h.size, fun k hk => by
 by_cases e : k = g
 ·subst e
  rw [h0, h1]
 ·exact h.block k hk (by simpa using e)⟩
theorem cv8_nn (x : Int) : 0 ≤ cv .u8 x ∧ cv .u8 x < 256 := by
 unfold cv
 simp [IntKind.wrap, IntKind.signed, IntKind.bits]
 omega
theorem cv_u8 (x : Int) : cv .u8 x = x % 256 := by
 unfold cv
 simp [IntKind.wrap, IntKind.signed, IntKind.bits]
theorem cv_u16 (x : Int) : cv .u16 x = x % 65536 := by
 unfold cv
 simp [IntKind.wrap, IntKind.signed, IntKind.bits]
theorem cv_u32 (x : Int) : cv .u32 x = x % 4294967296 := by
 unfold cv
 simp [IntKind.wrap, IntKind.signed, IntKind.bits]
theorem cv_u64 (x : Int) : cv .u64 x = x % 18446744073709551616 := by
 unfold cv
 simp [IntKind.wrap, IntKind.signed, IntKind.bits]
theorem sr_8 (x : Int) : sr x 8 = x / 256 := by
 unfold sr
 rw [Int.fdiv_eq_ediv_of_nonneg _ (by decide)]
 rfl
theorem sl_8 (x : Int) : sl x 8 = (x * 256) % 18446744073709551616 := by
 unfold sl
 simp [IntKind.wrap, IntKind.signed, IntKind.bits]
theorem ua_eq (x y : Int) : ua x y = (x + y) % 18446744073709551616 := by
 unfold ua
 simp [IntKind.wrap, IntKind.signed, IntKind.bits]
theorem cv_i64 {x : Int} (h0 : -9223372036854775808 ≤ x) (h1 : x < 9223372036854775808) : cv .i64 x = x := wrap64 h0 h1
end Go.Proofs.Ytbechjlkmajcoaa

namespace Go.Proofs.Ytbechjlkmajcoaa
open Go.RowKit
def yn (x y : Int) : Int := IntKind.wrap .u16 (BitVec.ofInt 16 x &&& BitVec.ofInt 16 y).toNat
section
variable {P : Program}
theorem eqF_all (d : Nat) (xs ys : Array Value) (w : World) : ∀ (fs : List Field) (es : List (TypeId × Nat × Value × Value × Bool)), fs.map (fun f => (f.name == "_", f.type, f.offset)) = es.map (fun e => (false, e.1, e.2.1)) →
  (∀ e ∈ es, (part e.1 xs e.2.1).run P w = .ok e.2.2.1 w ∧ (part e.1 ys e.2.1).run P w = .ok e.2.2.2.1 w ∧ (Op.equalIn d e.1 e.2.2.1 e.2.2.2.1).run P w = .ok e.2.2.2.2 w) →
  (Op.eqFields d xs ys fs).run P w = .ok (es.all (·.2.2.2.2)) w
 | [], es, h, _ => by
  cases es with
  | nil => rfl
  | cons e es => simp at h
 | f :: fs, es, h, hp => by
  cases es with
  | nil => simp at h
  | cons e es =>
   simp only [List.map_cons, List.cons.injEq, Prod.mk.injEq] at h
   obtain ⟨⟨h1, h2, h3⟩, h4⟩ := h
   obtain ⟨p1, p2, p3⟩ := hp e (List.mem_cons_self ..)
   have hn : f.name ≠ "_" := by simpa using h1
   unfold Op.eqFields
   rw [if_pos hn]
   simp only [Sem.run_bind, h2, h3, p1, p2, p3, Result.andThen_ok, List.all_cons]
   cases hb : e.2.2.2.2
   ·simp
   ·simp only [Bool.not_true, Bool.false_eq_true, if_false, Bool.true_and]
    exact eqF_all d xs ys w fs es h4 fun e he => hp e (List.mem_cons_of_mem _ he)
end
theorem dec_bool (a b : Bool) : (a == b) = decide (a = b) := by cases a <;> cases b <;> rfl
theorem dec_int (a b : Int) : (a == b) = decide (a = b) := by
 rw [Bool.eq_iff_iff]
 simp
theorem dec_str (a b : ByteArray) : (a.toList == b.toList) = decide (a = b) := by
 by_cases h : a = b
 ·rw [seq_pos h, decide_eq_true h]
 ·rw [seq_neg h, decide_eq_false h]
set_option linter.unusedSimpArgs false in
theorem eqI25 (d : Nat) (x0 x0' : Bool) (x1 x1' : Int) (x2 x2' : Int) (w : World) : (Op.equalIn (d + 2) 25 (.agg (av 3 (ls [.bool x0, .int .u64 x1, .int .u64 x2]))) (.agg (av 3 (ls [.bool x0', .int .u64 x1', .int .u64 x2'])))).run Try.prog w = .ok (decide (x0 = x0' ∧ x1 = x1' ∧ x2 = x2')) w := by
 rw [run_equalIn_struct w (d + 1) 25 _ _ (by kernel_rfl) (by kernel_rfl)]
 rw [eqF_all (d + 1) _ _ w _ [(4, 0, .bool x0, .bool x0', x0 == x0'), (23, 1, .int .u64 x1, .int .u64 x1', x1 == x1'), (23, 2, .int .u64 x2, .int .u64 x2', x2 == x2')] (by kernel_rfl) (by
  intro e he
  simp only [List.mem_cons, List.mem_nil_iff, or_false] at he
  rcases he with rfl | rfl | rfl
  ·exact ⟨by kernel_rfl, by kernel_rfl, run_equalIn_bool' w d 4 x0 x0' Try.underlying4⟩
  ·exact ⟨by kernel_rfl, by kernel_rfl, run_equalIn_int w d 23 .u64 .u64 x1 x1' Try.underlying23⟩
  ·exact ⟨by kernel_rfl, by kernel_rfl, run_equalIn_int w d 23 .u64 .u64 x2 x2' Try.underlying23⟩)]
 simp [dec_bool, Bool.decide_and, dec_int, Bool.and_assoc, dec_str]
set_option linter.unusedSimpArgs false in
theorem eqI28 (d : Nat) (x0 x0' : Bool) (x1 x1' : Int) (x2 x2' : Int) (x3 x3' : Int) (w : World) : (Op.equalIn (d + 3) 28 (.agg (av 4 (ls [.bool x0, .int .u64 x1, .int .u64 x2, .int .u16 x3]))) (.agg (av 4 (ls [.bool x0', .int .u64 x1', .int .u64 x2', .int .u16 x3'])))).run Try.prog w = .ok (decide (x0 = x0' ∧ x1 = x1' ∧ x2 = x2' ∧ x3 = x3')) w := by
 rw [run_equalIn_struct w (d + 2) 28 _ _ (by kernel_rfl) (by kernel_rfl)]
 rw [eqF_all (d + 2) _ _ w _ [(25, 0, (.agg (av 3 (ls [.bool x0, .int .u64 x1, .int .u64 x2]))), (.agg (av 3 (ls [.bool x0', .int .u64 x1', .int .u64 x2']))), decide (x0 = x0' ∧ x1 = x1' ∧ x2 = x2')), (26, 3, .int .u16 x3, .int .u16 x3', x3 == x3')] (by kernel_rfl) (by
  intro e he
  simp only [List.mem_cons, List.mem_nil_iff, or_false] at he
  rcases he with rfl | rfl
  ·exact ⟨by kernel_rfl, by kernel_rfl, eqI25 d x0 x0' x1 x1' x2 x2' w⟩
  ·exact ⟨by kernel_rfl, by kernel_rfl, run_equalIn_int w (d + 1) 26 .u16 .u16 x3 x3' Try.underlying26⟩)]
 simp [dec_bool, Bool.decide_and, dec_int, Bool.and_assoc, dec_str]
set_option linter.unusedSimpArgs false in
theorem eqI86 (d : Nat) (x0 x0' : Int) (x1 x1' : ByteArray) (x2 x2' : Bool) (x3 x3' : Int) (x4 x4' : Int) (x5 x5' : Int) (w : World) : (Op.equalIn (d + 4) 86 (.agg (av 6 (ls [.int .u64 x0, .string x1, .bool x2, .int .u64 x3, .int .u64 x4, .int .u16 x5]))) (.agg (av 6 (ls [.int .u64 x0', .string x1', .bool x2', .int .u64 x3', .int .u64 x4', .int .u16 x5'])))).run Try.prog w = .ok (decide (x0 = x0' ∧ x1 = x1' ∧ x2 = x2' ∧ x3 = x3' ∧ x4 = x4' ∧ x5 = x5')) w := by
 rw [run_equalIn_struct w (d + 3) 86 _ _ (by kernel_rfl) (by kernel_rfl)]
 rw [eqF_all (d + 3) _ _ w _ [(23, 0, .int .u64 x0, .int .u64 x0', x0 == x0'), (9, 1, .string x1, .string x1', x1.toList == x1'.toList), (28, 2, (.agg (av 4 (ls [.bool x2, .int .u64 x3, .int .u64 x4, .int .u16 x5]))), (.agg (av 4 (ls [.bool x2', .int .u64 x3', .int .u64 x4', .int .u16 x5']))), decide (x2 = x2' ∧ x3 = x3' ∧ x4 = x4' ∧ x5 = x5'))] (by kernel_rfl) (by
  intro e he
  simp only [List.mem_cons, List.mem_nil_iff, or_false] at he
  rcases he with rfl | rfl | rfl
  ·exact ⟨by kernel_rfl, by kernel_rfl, run_equalIn_int w (d + 2) 23 .u64 .u64 x0 x0' Try.underlying23⟩
  ·exact ⟨by kernel_rfl, by kernel_rfl, run_equalIn_string w (d + 2) 9 x1 x1' Try.underlying9⟩
  ·exact ⟨by kernel_rfl, by kernel_rfl, eqI28 d x2 x2' x3 x3' x4 x4' x5 x5' w⟩)]
 simp [dec_bool, Bool.decide_and, dec_int, Bool.and_assoc, dec_str]
theorem neq86w (x0 x0' : Int) (x1 x1' : ByteArray) (x2 x2' : Bool) (x3 x3' : Int) (x4 x4' : Int) (x5 x5' : Int) (w : World) : (binOp .neq 86 (.agg (av 6 (ls [.int .u64 x0, .string x1, .bool x2, .int .u64 x3, .int .u64 x4, .int .u16 x5]))) (.agg (av 6 (ls [.int .u64 x0', .string x1', .bool x2', .int .u64 x3', .int .u64 x4', .int .u16 x5'])))).run Try.prog w = .ok (.bool (!decide (x0 = x0' ∧ x1 = x1' ∧ x2 = x2' ∧ x3 = x3' ∧ x4 = x4' ∧ x5 = x5'))) w := by
 rw [run_neq_struct]
 have := eqI86 9996 x0 x0' x1 x1' x2 x2' x3 x3' x4 x4' x5 x5' w
 rw [show (10000 : Nat) = 9996 + 4 from rfl, this]
 rfl
set_option linter.unusedSimpArgs false in
theorem eqI30 (d : Nat) (x0 x0' : Int) (x1 x1' : ByteArray) (x2 x2' : ByteArray) (x3 x3' : Int) (x4 x4' : Int) (x5 x5' : Int) (x6 x6' : Int) (x7 x7' : Int) (x8 x8' : ByteArray) (x9 x9' : Bool) (x10 x10' : Int) (x11 x11' : Int) (x12 x12' : Int) (x13 x13' : Int) (x14 x14' : ByteArray) (x15 x15' : ByteArray) (x16 x16' : ByteArray) (w : World) : (Op.equalIn (d + 4) 30 (.agg (av 17 (ls [.int .u8 x0, .string x1, .string x2, .int .u32 x3, .int .u32 x4, .int .u64 x5, .int .u64 x6, .int .u64 x7, .string x8, .bool x9, .int .u64 x10, .int .u64 x11, .int .u16 x12, .int .u16 x13, .string x14, .string x15, .string x16]))) (.agg (av 17 (ls [.int .u8 x0', .string x1', .string x2', .int .u32 x3', .int .u32 x4', .int .u64 x5', .int .u64 x6', .int .u64 x7', .string x8', .bool x9', .int .u64 x10', .int .u64 x11', .int .u16 x12', .int .u16 x13', .string x14', .string x15', .string x16'])))).run Try.prog w = .ok (decide (x0 = x0' ∧ x1 = x1' ∧ x2 = x2' ∧ x3 = x3' ∧ x4 = x4' ∧ x5 = x5' ∧ x6 = x6' ∧ x7 = x7' ∧ x8 = x8' ∧ x9 = x9' ∧ x10 = x10' ∧ x11 = x11' ∧ x12 = x12' ∧ x13 = x13' ∧ x14 = x14' ∧ x15 = x15' ∧ x16 = x16')) w := by
 rw [run_equalIn_struct w (d + 3) 30 _ _ (by kernel_rfl) (by kernel_rfl)]
 rw [eqF_all (d + 3) _ _ w _ [(5, 0, .int .u8 x0, .int .u8 x0', x0 == x0'), (9, 1, .string x1, .string x1', x1.toList == x1'.toList), (9, 2, .string x2, .string x2', x2.toList == x2'.toList), (22, 3, .int .u32 x3, .int .u32 x3', x3 == x3'), (22, 4, .int .u32 x4, .int .u32 x4', x4 == x4'), (23, 5, .int .u64 x5, .int .u64 x5', x5 == x5'), (23, 6, .int .u64 x6, .int .u64 x6', x6 == x6'), (23, 7, .int .u64 x7, .int .u64 x7', x7 == x7'), (9, 8, .string x8, .string x8', x8.toList == x8'.toList), (28, 9, (.agg (av 4 (ls [.bool x9, .int .u64 x10, .int .u64 x11, .int .u16 x12]))), (.agg (av 4 (ls [.bool x9', .int .u64 x10', .int .u64 x11', .int .u16 x12']))), decide (x9 = x9' ∧ x10 = x10' ∧ x11 = x11' ∧ x12 = x12')), (26, 13, .int .u16 x13, .int .u16 x13', x13 == x13'), (9, 14, .string x14, .string x14', x14.toList == x14'.toList), (9, 15, .string x15, .string x15', x15.toList == x15'.toList), (9, 16, .string x16, .string x16', x16.toList == x16'.toList)] (by kernel_rfl) (by
  intro e he
  simp only [List.mem_cons, List.mem_nil_iff, or_false] at he
  rcases he with rfl | rfl | rfl | rfl | rfl | rfl | rfl | rfl | rfl | rfl | rfl | rfl | rfl | rfl
  ·exact ⟨by kernel_rfl, by kernel_rfl, run_equalIn_int w (d + 2) 5 .u8 .u8 x0 x0' Try.underlying5⟩
  ·exact ⟨by kernel_rfl, by kernel_rfl, run_equalIn_string w (d + 2) 9 x1 x1' Try.underlying9⟩
  ·exact ⟨by kernel_rfl, by kernel_rfl, run_equalIn_string w (d + 2) 9 x2 x2' Try.underlying9⟩
  ·exact ⟨by kernel_rfl, by kernel_rfl, run_equalIn_int w (d + 2) 22 .u32 .u32 x3 x3' Try.underlying22⟩
  ·exact ⟨by kernel_rfl, by kernel_rfl, run_equalIn_int w (d + 2) 22 .u32 .u32 x4 x4' Try.underlying22⟩
  ·exact ⟨by kernel_rfl, by kernel_rfl, run_equalIn_int w (d + 2) 23 .u64 .u64 x5 x5' Try.underlying23⟩
  ·exact ⟨by kernel_rfl, by kernel_rfl, run_equalIn_int w (d + 2) 23 .u64 .u64 x6 x6' Try.underlying23⟩
  ·exact ⟨by kernel_rfl, by kernel_rfl, run_equalIn_int w (d + 2) 23 .u64 .u64 x7 x7' Try.underlying23⟩
  ·exact ⟨by kernel_rfl, by kernel_rfl, run_equalIn_string w (d + 2) 9 x8 x8' Try.underlying9⟩
  ·exact ⟨by kernel_rfl, by kernel_rfl, eqI28 d x9 x9' x10 x10' x11 x11' x12 x12' w⟩
  ·exact ⟨by kernel_rfl, by kernel_rfl, run_equalIn_int w (d + 2) 26 .u16 .u16 x13 x13' Try.underlying26⟩
  ·exact ⟨by kernel_rfl, by kernel_rfl, run_equalIn_string w (d + 2) 9 x14 x14' Try.underlying9⟩
  ·exact ⟨by kernel_rfl, by kernel_rfl, run_equalIn_string w (d + 2) 9 x15 x15' Try.underlying9⟩
  ·exact ⟨by kernel_rfl, by kernel_rfl, run_equalIn_string w (d + 2) 9 x16 x16' Try.underlying9⟩)]
 simp [dec_bool, Bool.decide_and, dec_int, Bool.and_assoc, dec_str]
theorem eql30w (x0 x0' : Int) (x1 x1' : ByteArray) (x2 x2' : ByteArray) (x3 x3' : Int) (x4 x4' : Int) (x5 x5' : Int) (x6 x6' : Int) (x7 x7' : Int) (x8 x8' : ByteArray) (x9 x9' : Bool) (x10 x10' : Int) (x11 x11' : Int) (x12 x12' : Int) (x13 x13' : Int) (x14 x14' : ByteArray) (x15 x15' : ByteArray) (x16 x16' : ByteArray) (w : World) : (binOp .eql 30 (.agg (av 17 (ls [.int .u8 x0, .string x1, .string x2, .int .u32 x3, .int .u32 x4, .int .u64 x5, .int .u64 x6, .int .u64 x7, .string x8, .bool x9, .int .u64 x10, .int .u64 x11, .int .u16 x12, .int .u16 x13, .string x14, .string x15, .string x16]))) (.agg (av 17 (ls [.int .u8 x0', .string x1', .string x2', .int .u32 x3', .int .u32 x4', .int .u64 x5', .int .u64 x6', .int .u64 x7', .string x8', .bool x9', .int .u64 x10', .int .u64 x11', .int .u16 x12', .int .u16 x13', .string x14', .string x15', .string x16'])))).run Try.prog w = .ok (.bool (decide (x0 = x0' ∧ x1 = x1' ∧ x2 = x2' ∧ x3 = x3' ∧ x4 = x4' ∧ x5 = x5' ∧ x6 = x6' ∧ x7 = x7' ∧ x8 = x8' ∧ x9 = x9' ∧ x10 = x10' ∧ x11 = x11' ∧ x12 = x12' ∧ x13 = x13' ∧ x14 = x14' ∧ x15 = x15' ∧ x16 = x16'))) w := by
 rw [run_eql_struct]
 have := eqI30 9996 x0 x0' x1 x1' x2 x2' x3 x3' x4 x4' x5 x5' x6 x6' x7 x7' x8 x8' x9 x9' x10 x10' x11 x11' x12 x12' x13 x13' x14 x14' x15 x15' x16 x16' w
 rw [show (10000 : Nat) = 9996 + 4 from rfl, this]
 rfl
theorem neq30w (x0 x0' : Int) (x1 x1' : ByteArray) (x2 x2' : ByteArray) (x3 x3' : Int) (x4 x4' : Int) (x5 x5' : Int) (x6 x6' : Int) (x7 x7' : Int) (x8 x8' : ByteArray) (x9 x9' : Bool) (x10 x10' : Int) (x11 x11' : Int) (x12 x12' : Int) (x13 x13' : Int) (x14 x14' : ByteArray) (x15 x15' : ByteArray) (x16 x16' : ByteArray) (w : World) : (binOp .neq 30 (.agg (av 17 (ls [.int .u8 x0, .string x1, .string x2, .int .u32 x3, .int .u32 x4, .int .u64 x5, .int .u64 x6, .int .u64 x7, .string x8, .bool x9, .int .u64 x10, .int .u64 x11, .int .u16 x12, .int .u16 x13, .string x14, .string x15, .string x16]))) (.agg (av 17 (ls [.int .u8 x0', .string x1', .string x2', .int .u32 x3', .int .u32 x4', .int .u64 x5', .int .u64 x6', .int .u64 x7', .string x8', .bool x9', .int .u64 x10', .int .u64 x11', .int .u16 x12', .int .u16 x13', .string x14', .string x15', .string x16'])))).run Try.prog w = .ok (.bool (!decide (x0 = x0' ∧ x1 = x1' ∧ x2 = x2' ∧ x3 = x3' ∧ x4 = x4' ∧ x5 = x5' ∧ x6 = x6' ∧ x7 = x7' ∧ x8 = x8' ∧ x9 = x9' ∧ x10 = x10' ∧ x11 = x11' ∧ x12 = x12' ∧ x13 = x13' ∧ x14 = x14' ∧ x15 = x15' ∧ x16 = x16'))) w := by
 rw [run_neq_struct]
 have := eqI30 9996 x0 x0' x1 x1' x2 x2' x3 x3' x4 x4' x5 x5' x6 x6' x7 x7' x8 x8' x9 x9' x10 x10' x11 x11' x12 x12' x13 x13' x14 x14' x15 x15' x16 x16' w
 rw [show (10000 : Nat) = 9996 + 4 from rfl, this]
 rfl
section
variable {P : Program} {a : Act} {o : Oper}
theorem run_bin (op : BinOp) (t : TypeId) (x y : Operand) {rt : TypeId} (ho : o.op = .binOp op t x y rt) {xs ys : Array Value} {v : Value} (hx : a.eval x = .agg xs) (hy : a.eval y = .agg ys) (hm : P.eqGuardType P.depth t = false) (hb : ∀ w, (binOp op t (.agg xs) (.agg ys)).run P w = .ok v w) (w : World) :
  (execOp a.eval o).run P w = .ok (.value v) w := by
 unfold execOp
 simp only [ho, hx, hy, Sem.run_bind, Result.andThen_ok, run_eqGuard_agg (hm := hm), hb, Sem.run_pure]
end
theorem neq86 {a : Act} {o : Oper} (x0 x0' : Int) (x1 x1' : ByteArray) (x2 x2' : Bool) (x3 x3' : Int) (x4 x4' : Int) (x5 x5' : Int) (x y : Operand) {rt : TypeId} (ho : o.op = .binOp .neq 86 x y rt) (hx : a.eval x = (.agg (av 6 (ls [.int .u64 x0, .string x1, .bool x2, .int .u64 x3, .int .u64 x4, .int .u16 x5])))) (hy : a.eval y = (.agg (av 6 (ls [.int .u64 x0', .string x1', .bool x2', .int .u64 x3', .int .u64 x4', .int .u16 x5'])))) (w : World) :
  (execOp a.eval o).run Try.prog w = .ok (.value (.bool (!decide (x0 = x0' ∧ x1 = x1' ∧ x2 = x2' ∧ x3 = x3' ∧ x4 = x4' ∧ x5 = x5')))) w := run_bin .neq 86 x y ho hx hy (by kernel_rfl) (neq86w x0 x0' x1 x1' x2 x2' x3 x3' x4 x4' x5 x5') w
theorem eql30 {a : Act} {o : Oper} (x0 x0' : Int) (x1 x1' : ByteArray) (x2 x2' : ByteArray) (x3 x3' : Int) (x4 x4' : Int) (x5 x5' : Int) (x6 x6' : Int) (x7 x7' : Int) (x8 x8' : ByteArray) (x9 x9' : Bool) (x10 x10' : Int) (x11 x11' : Int) (x12 x12' : Int) (x13 x13' : Int) (x14 x14' : ByteArray) (x15 x15' : ByteArray) (x16 x16' : ByteArray) (x y : Operand) {rt : TypeId} (ho : o.op = .binOp .eql 30 x y rt) (hx : a.eval x = (.agg (av 17 (ls [.int .u8 x0, .string x1, .string x2, .int .u32 x3, .int .u32 x4, .int .u64 x5, .int .u64 x6, .int .u64 x7, .string x8, .bool x9, .int .u64 x10, .int .u64 x11, .int .u16 x12, .int .u16 x13, .string x14, .string x15, .string x16])))) (hy : a.eval y = (.agg (av 17 (ls [.int .u8 x0', .string x1', .string x2', .int .u32 x3', .int .u32 x4', .int .u64 x5', .int .u64 x6', .int .u64 x7', .string x8', .bool x9', .int .u64 x10', .int .u64 x11', .int .u16 x12', .int .u16 x13', .string x14', .string x15', .string x16'])))) (w : World) :
  (execOp a.eval o).run Try.prog w = .ok (.value (.bool (decide (x0 = x0' ∧ x1 = x1' ∧ x2 = x2' ∧ x3 = x3' ∧ x4 = x4' ∧ x5 = x5' ∧ x6 = x6' ∧ x7 = x7' ∧ x8 = x8' ∧ x9 = x9' ∧ x10 = x10' ∧ x11 = x11' ∧ x12 = x12' ∧ x13 = x13' ∧ x14 = x14' ∧ x15 = x15' ∧ x16 = x16')))) w := run_bin .eql 30 x y ho hx hy (by kernel_rfl) (eql30w x0 x0' x1 x1' x2 x2' x3 x3' x4 x4' x5 x5' x6 x6' x7 x7' x8 x8' x9 x9' x10 x10' x11 x11' x12 x12' x13 x13' x14 x14' x15 x15' x16 x16') w
theorem neq30 {a : Act} {o : Oper} (x0 x0' : Int) (x1 x1' : ByteArray) (x2 x2' : ByteArray) (x3 x3' : Int) (x4 x4' : Int) (x5 x5' : Int) (x6 x6' : Int) (x7 x7' : Int) (x8 x8' : ByteArray) (x9 x9' : Bool) (x10 x10' : Int) (x11 x11' : Int) (x12 x12' : Int) (x13 x13' : Int) (x14 x14' : ByteArray) (x15 x15' : ByteArray) (x16 x16' : ByteArray) (x y : Operand) {rt : TypeId} (ho : o.op = .binOp .neq 30 x y rt) (hx : a.eval x = (.agg (av 17 (ls [.int .u8 x0, .string x1, .string x2, .int .u32 x3, .int .u32 x4, .int .u64 x5, .int .u64 x6, .int .u64 x7, .string x8, .bool x9, .int .u64 x10, .int .u64 x11, .int .u16 x12, .int .u16 x13, .string x14, .string x15, .string x16])))) (hy : a.eval y = (.agg (av 17 (ls [.int .u8 x0', .string x1', .string x2', .int .u32 x3', .int .u32 x4', .int .u64 x5', .int .u64 x6', .int .u64 x7', .string x8', .bool x9', .int .u64 x10', .int .u64 x11', .int .u16 x12', .int .u16 x13', .string x14', .string x15', .string x16'])))) (w : World) :
  (execOp a.eval o).run Try.prog w = .ok (.value (.bool (!decide (x0 = x0' ∧ x1 = x1' ∧ x2 = x2' ∧ x3 = x3' ∧ x4 = x4' ∧ x5 = x5' ∧ x6 = x6' ∧ x7 = x7' ∧ x8 = x8' ∧ x9 = x9' ∧ x10 = x10' ∧ x11 = x11' ∧ x12 = x12' ∧ x13 = x13' ∧ x14 = x14' ∧ x15 = x15' ∧ x16 = x16')))) w := run_bin .neq 30 x y ho hx hy (by kernel_rfl) (neq30w x0 x0' x1 x1' x2 x2' x3 x3' x4 x4' x5 x5' x6 x6' x7 x7' x8 x8' x9 x9' x10 x10' x11 x11' x12 x12' x13 x13' x14 x14' x15 x15' x16 x16') w
end Go.Proofs.Ytbechjlkmajcoaa

namespace Go.Proofs.Ytbechjlkmajcoaa
open Go.RowKit
set_option maxRecDepth 100000 in
set_option maxHeartbeats 4000000 in
set_option linter.unusedSimpArgs false in
theorem c_len8  (w : World) (hL : Laid w)  :
  Calls Try.prog 84 #[.int .u64 255] w fun r w' => r = .returned (.int .i64 8) ∧ Below w.heap.size w w' := by
 go_enter Try.func84, Try.ntmps84
 have M := Mem.start hL
 refine sR ?_
 refine pV 2 (.int .i64 0) ?_
 refine nT ?_
 refine wp_seq ?_
 refine sR ?_
 refine pV 3 (.int .u64 255) ?_
 refine pV 4 (.bool false) ?_
 refine nT ?_
 refine wp_cond_false (by kernel_rfl) ?_
 refine wp_skip ?_
 refine au_then ?_
 refine wp_seq ?_
 refine sR ?_
 refine pV 7 (.int .u64 255) ?_
 refine pV 8 (.bool false) ?_
 refine nT ?_
 refine wp_cond_false (by kernel_rfl) ?_
 refine wp_skip ?_
 refine au_then ?_
 refine wp_seq ?_
 refine sR ?_
 refine pV 13 (.int .u64 255) ?_
 refine pV 14 (.bool false) ?_
 refine nT ?_
 refine wp_cond_false (by kernel_rfl) ?_
 refine wp_skip ?_
 refine au_then ?_
 refine sR ?_
 refine pV 19 (.int .i64 0) ?_
 refine pV 20 (.int .u64 255) ?_
 refine pV 21 (.int .u8 255) ?_
 refine pV 22 (.int .u8 8) ?_
 refine pV 23 (.int .i64 8) ?_
 refine pV 24 (.int .i64 8) ?_
 refine pV 2 (.int .i64 8) ?_
 refine nT ?_
 refine wp_ret ?_
 exact bodyPost_ret (v := .int .i64 8) (results_tmp1 Try.results84 _ _ _ (by kernel_rfl)) (by kernel_rfl) ⟨rfl, below_grown M.old⟩
set_option maxRecDepth 100000 in
set_option maxHeartbeats 4000000 in
set_option linter.unusedSimpArgs false in
theorem c_len16  (w : World) (hL : Laid w)  :
  Calls Try.prog 84 #[.int .u64 65535] w fun r w' => r = .returned (.int .i64 16) ∧ Below w.heap.size w w' := by
 go_enter Try.func84, Try.ntmps84
 have M := Mem.start hL
 refine sR ?_
 refine pV 2 (.int .i64 0) ?_
 refine nT ?_
 refine wp_seq ?_
 refine sR ?_
 refine pV 3 (.int .u64 65535) ?_
 refine pV 4 (.bool false) ?_
 refine nT ?_
 refine wp_cond_false (by kernel_rfl) ?_
 refine wp_skip ?_
 refine au_then ?_
 refine wp_seq ?_
 refine sR ?_
 refine pV 7 (.int .u64 65535) ?_
 refine pV 8 (.bool false) ?_
 refine nT ?_
 refine wp_cond_false (by kernel_rfl) ?_
 refine wp_skip ?_
 refine au_then ?_
 refine wp_seq ?_
 refine sR ?_
 refine pV 13 (.int .u64 65535) ?_
 refine pV 14 (.bool true) ?_
 refine nT ?_
 refine wp_cond_true (by kernel_rfl) ?_
 refine sR ?_
 refine pV 15 (.int .u64 65535) ?_
 refine pV 16 (.int .u64 255) ?_
 refine pV 0 (.int .u64 255) ?_
 refine nT ?_
 refine rg_lit ?_
 refine pV 17 (.int .i64 0) ?_
 refine pV 18 (.int .i64 8) ?_
 refine pV 2 (.int .i64 8) ?_
 refine nT ?_
 refine sR ?_
 refine pV 19 (.int .i64 8) ?_
 refine pV 20 (.int .u64 255) ?_
 refine pV 21 (.int .u8 255) ?_
 refine pV 22 (.int .u8 8) ?_
 refine pV 23 (.int .i64 8) ?_
 refine pV 24 (.int .i64 16) ?_
 refine pV 2 (.int .i64 16) ?_
 refine nT ?_
 refine wp_ret ?_
 exact bodyPost_ret (v := .int .i64 16) (results_tmp1 Try.results84 _ _ _ (by kernel_rfl)) (by kernel_rfl) ⟨rfl, below_grown M.old⟩
set_option maxRecDepth 100000 in
set_option maxHeartbeats 4000000 in
set_option linter.unusedSimpArgs false in
theorem c_len32  (w : World) (hL : Laid w)  :
  Calls Try.prog 84 #[.int .u64 4294967295] w fun r w' => r = .returned (.int .i64 32) ∧ Below w.heap.size w w' := by
 go_enter Try.func84, Try.ntmps84
 have M := Mem.start hL
 refine sR ?_
 refine pV 2 (.int .i64 0) ?_
 refine nT ?_
 refine wp_seq ?_
 refine sR ?_
 refine pV 3 (.int .u64 4294967295) ?_
 refine pV 4 (.bool false) ?_
 refine nT ?_
 refine wp_cond_false (by kernel_rfl) ?_
 refine wp_skip ?_
 refine au_then ?_
 refine wp_seq ?_
 refine sR ?_
 refine pV 7 (.int .u64 4294967295) ?_
 refine pV 8 (.bool true) ?_
 refine nT ?_
 refine wp_cond_true (by kernel_rfl) ?_
 refine sR ?_
 refine pV 9 (.int .u64 4294967295) ?_
 refine pV 10 (.int .u64 65535) ?_
 refine pV 0 (.int .u64 65535) ?_
 refine nT ?_
 refine rg_lit ?_
 refine pV 11 (.int .i64 0) ?_
 refine pV 12 (.int .i64 16) ?_
 refine pV 2 (.int .i64 16) ?_
 refine nT ?_
 refine wp_seq ?_
 refine sR ?_
 refine pV 13 (.int .u64 65535) ?_
 refine pV 14 (.bool true) ?_
 refine nT ?_
 refine wp_cond_true (by kernel_rfl) ?_
 refine sR ?_
 refine pV 15 (.int .u64 65535) ?_
 refine pV 16 (.int .u64 255) ?_
 refine pV 0 (.int .u64 255) ?_
 refine nT ?_
 refine rg_lit ?_
 refine pV 17 (.int .i64 16) ?_
 refine pV 18 (.int .i64 24) ?_
 refine pV 2 (.int .i64 24) ?_
 refine nT ?_
 refine sR ?_
 refine pV 19 (.int .i64 24) ?_
 refine pV 20 (.int .u64 255) ?_
 refine pV 21 (.int .u8 255) ?_
 refine pV 22 (.int .u8 8) ?_
 refine pV 23 (.int .i64 8) ?_
 refine pV 24 (.int .i64 32) ?_
 refine pV 2 (.int .i64 32) ?_
 refine nT ?_
 refine wp_ret ?_
 exact bodyPost_ret (v := .int .i64 32) (results_tmp1 Try.results84 _ _ _ (by kernel_rfl)) (by kernel_rfl) ⟨rfl, below_grown M.old⟩
set_option maxRecDepth 100000 in
set_option maxHeartbeats 4000000 in
set_option linter.unusedSimpArgs false in
theorem c_len64  (w : World) (hL : Laid w)  :
  Calls Try.prog 84 #[.int .u64 18446744073709551615] w fun r w' => r = .returned (.int .i64 64) ∧ Below w.heap.size w w' := by
 go_enter Try.func84, Try.ntmps84
 have M := Mem.start hL
 refine sR ?_
 refine pV 2 (.int .i64 0) ?_
 refine nT ?_
 refine wp_seq ?_
 refine sR ?_
 refine pV 3 (.int .u64 18446744073709551615) ?_
 refine pV 4 (.bool true) ?_
 refine nT ?_
 refine wp_cond_true (by kernel_rfl) ?_
 refine sR ?_
 refine pV 5 (.int .u64 18446744073709551615) ?_
 refine pV 6 (.int .u64 4294967295) ?_
 refine pV 0 (.int .u64 4294967295) ?_
 refine nT ?_
 refine rg_lit ?_
 refine pV 2 (.int .i64 32) ?_
 refine nT ?_
 refine wp_seq ?_
 refine sR ?_
 refine pV 7 (.int .u64 4294967295) ?_
 refine pV 8 (.bool true) ?_
 refine nT ?_
 refine wp_cond_true (by kernel_rfl) ?_
 refine sR ?_
 refine pV 9 (.int .u64 4294967295) ?_
 refine pV 10 (.int .u64 65535) ?_
 refine pV 0 (.int .u64 65535) ?_
 refine nT ?_
 refine rg_lit ?_
 refine pV 11 (.int .i64 32) ?_
 refine pV 12 (.int .i64 48) ?_
 refine pV 2 (.int .i64 48) ?_
 refine nT ?_
 refine wp_seq ?_
 refine sR ?_
 refine pV 13 (.int .u64 65535) ?_
 refine pV 14 (.bool true) ?_
 refine nT ?_
 refine wp_cond_true (by kernel_rfl) ?_
 refine sR ?_
 refine pV 15 (.int .u64 65535) ?_
 refine pV 16 (.int .u64 255) ?_
 refine pV 0 (.int .u64 255) ?_
 refine nT ?_
 refine rg_lit ?_
 refine pV 17 (.int .i64 48) ?_
 refine pV 18 (.int .i64 56) ?_
 refine pV 2 (.int .i64 56) ?_
 refine nT ?_
 refine sR ?_
 refine pV 19 (.int .i64 56) ?_
 refine pV 20 (.int .u64 255) ?_
 refine pV 21 (.int .u8 255) ?_
 refine pV 22 (.int .u8 8) ?_
 refine pV 23 (.int .i64 8) ?_
 refine pV 24 (.int .i64 64) ?_
 refine pV 2 (.int .i64 64) ?_
 refine nT ?_
 refine wp_ret ?_
 exact bodyPost_ret (v := .int .i64 64) (results_tmp1 Try.results84 _ _ _ (by kernel_rfl)) (by kernel_rfl) ⟨rfl, below_grown M.old⟩
set_option maxRecDepth 100000 in
set_option maxHeartbeats 4000000 in
set_option linter.unusedSimpArgs false in
theorem c_size1  (w : World) (hL : Laid w)  :
  Calls Try.prog 80 #[] w fun r w' => r = .returned (.int .i64 1) ∧ Below w.heap.size w w' := by
 go_enter Try.func80, Try.ntmps80
 have M := Mem.start hL
 refine sR ?_
 refine pV 0 (.int .i64 0) ?_
 refine nT ?_
 refine sR ?_
 refine pV 1 (.int .u8 0) ?_
 refine pV 2 (.int .u8 255) ?_
 refine pV 3 (.int .u64 255) ?_
 refine pC M 4 84 #[.int .u64 255] (.int .i64 8) (fun w M => c_len8 w M.laid) fun u1 M => ?_
 refine pV 5 (.int .i64 1) ?_
 refine pV 0 (.int .i64 1) ?_
 refine nT ?_
 refine wp_ret ?_
 exact bodyPost_ret (v := .int .i64 1) (results_tmp1 Try.results80 _ _ _ (by kernel_rfl)) (by kernel_rfl) ⟨rfl, below_grown M.old⟩
set_option maxRecDepth 100000 in
set_option maxHeartbeats 4000000 in
set_option linter.unusedSimpArgs false in
theorem c_size2  (w : World) (hL : Laid w)  :
  Calls Try.prog 83 #[] w fun r w' => r = .returned (.int .i64 2) ∧ Below w.heap.size w w' := by
 go_enter Try.func83, Try.ntmps83
 have M := Mem.start hL
 refine sR ?_
 refine pV 0 (.int .i64 0) ?_
 refine nT ?_
 refine sR ?_
 refine pV 1 (.int .u16 0) ?_
 refine pV 2 (.int .u16 65535) ?_
 refine pV 3 (.int .u64 65535) ?_
 refine pC M 4 84 #[.int .u64 65535] (.int .i64 16) (fun w M => c_len16 w M.laid) fun u1 M => ?_
 refine pV 5 (.int .i64 2) ?_
 refine pV 0 (.int .i64 2) ?_
 refine nT ?_
 refine wp_ret ?_
 exact bodyPost_ret (v := .int .i64 2) (results_tmp1 Try.results83 _ _ _ (by kernel_rfl)) (by kernel_rfl) ⟨rfl, below_grown M.old⟩
set_option maxRecDepth 100000 in
set_option maxHeartbeats 4000000 in
set_option linter.unusedSimpArgs false in
theorem c_size4  (w : World) (hL : Laid w)  :
  Calls Try.prog 81 #[] w fun r w' => r = .returned (.int .i64 4) ∧ Below w.heap.size w w' := by
 go_enter Try.func81, Try.ntmps81
 have M := Mem.start hL
 refine sR ?_
 refine pV 0 (.int .i64 0) ?_
 refine nT ?_
 refine sR ?_
 refine pV 1 (.int .u32 0) ?_
 refine pV 2 (.int .u32 4294967295) ?_
 refine pV 3 (.int .u64 4294967295) ?_
 refine pC M 4 84 #[.int .u64 4294967295] (.int .i64 32) (fun w M => c_len32 w M.laid) fun u1 M => ?_
 refine pV 5 (.int .i64 4) ?_
 refine pV 0 (.int .i64 4) ?_
 refine nT ?_
 refine wp_ret ?_
 exact bodyPost_ret (v := .int .i64 4) (results_tmp1 Try.results81 _ _ _ (by kernel_rfl)) (by kernel_rfl) ⟨rfl, below_grown M.old⟩
set_option maxRecDepth 100000 in
set_option maxHeartbeats 4000000 in
set_option linter.unusedSimpArgs false in
theorem c_size8  (w : World) (hL : Laid w)  :
  Calls Try.prog 82 #[] w fun r w' => r = .returned (.int .i64 8) ∧ Below w.heap.size w w' := by
 go_enter Try.func82, Try.ntmps82
 have M := Mem.start hL
 refine sR ?_
 refine pV 0 (.int .i64 0) ?_
 refine nT ?_
 refine sR ?_
 refine pV 1 (.int .u64 0) ?_
 refine pV 2 (.int .u64 18446744073709551615) ?_
 refine pC M 3 84 #[.int .u64 18446744073709551615] (.int .i64 64) (fun w M => c_len64 w M.laid) fun u1 M => ?_
 refine pV 4 (.int .i64 8) ?_
 refine pV 0 (.int .i64 8) ?_
 refine nT ?_
 refine wp_ret ?_
 exact bodyPost_ret (v := .int .i64 8) (results_tmp1 Try.results82 _ _ _ (by kernel_rfl)) (by kernel_rfl) ⟨rfl, below_grown M.old⟩
def be2 (x : Int) : ByteArray := bs [(cv .u8 (sr x 8)), (cv .u8 x)]
theorem be2_size (x : Int) : (be2 x).size = 2 := by
 unfold be2
 rw [bs_size]
 rfl
def be4 (x : Int) : ByteArray := bs [(cv .u8 (sr (sr (sr x 8) 8) 8)), (cv .u8 (sr (sr x 8) 8)), (cv .u8 (sr x 8)), (cv .u8 x)]
theorem be4_size (x : Int) : (be4 x).size = 4 := by
 unfold be4
 rw [bs_size]
 rfl
def be8 (x : Int) : ByteArray := bs [(cv .u8 (sr (sr (sr (sr (sr (sr (sr x 8) 8) 8) 8) 8) 8) 8)), (cv .u8 (sr (sr (sr (sr (sr (sr x 8) 8) 8) 8) 8) 8)), (cv .u8 (sr (sr (sr (sr (sr x 8) 8) 8) 8) 8)), (cv .u8 (sr (sr (sr (sr x 8) 8) 8) 8)), (cv .u8 (sr (sr (sr x 8) 8) 8)), (cv .u8 (sr (sr x 8) 8)), (cv .u8 (sr x 8)), (cv .u8 x)]
theorem be8_size (x : Int) : (be8 x).size = 8 := by
 unfold be8
 rw [bs_size]
 rfl
set_option maxRecDepth 100000 in
set_option maxHeartbeats 4000000 in
set_option linter.unusedSimpArgs false in
theorem c_bytes2 (x : Int) (w : World) (hL : Laid w)  :
  Calls Try.prog 77 #[.int .u16 x] w fun r w' => r = .returned (.string (be2 (cv .u64 x))) ∧ Below w.heap.size w w' := by
 go_enter Try.func77, Try.ntmps77
 have M := Mem.start hL
 refine sR ?_
 refine pV 2 (.string ⟨#[]⟩) ?_
 refine nT ?_
 refine sR ?_
 refine pC M 6 83 #[] (.int .i64 2) (fun w M => c_size2 w M.laid) fun u1 M => ?_
 refine pl_mk M (want_no rfl) (some 7) rfl (fun g1 => .slice (some ⟨g1, 0, none⟩) 2 2) (.cells (av 2 (ls [.int .u8 0, .int .u8 0])) 5) (fun _ => by kernel_rfl) fun g1 u2 M => ?_
 replace M : Mem ⟨w, []⟩ [⟨g1, .cells (av 2 (ls [.int .u8 0, .int .u8 0])) 5⟩] u2 := M
 refine pV 3 (.slice (some ⟨g1, 0, none⟩) 2 2) ?_
 refine nT ?_
 refine sR ?_
 refine pV 8 (.int .u16 x) ?_
 refine pV 9 (.int .u64 (cv .u64 x)) ?_
 refine pV 4 (.int .u64 (cv .u64 x)) ?_
 refine nT ?_
 refine wp_seq ?_
 refine sR ?_
 refine pV 10 (.slice (some ⟨g1, 0, none⟩) 2 2) ?_
 refine pV 11 (.int .i64 2) ?_
 refine pV 12 (.int .i64 1) ?_
 refine pV 5 (.int .i64 1) ?_
 refine nT ?_
 refine wp_block ?_
 refine wp_loop_rounds 3 ?_
 refine rounds_go ?_
 refine wp_seq ?_
 refine sR ?_
 refine pV 13 (.int .i64 1) ?_
 refine pV 14 (.bool true) ?_
 refine nT ?_
 refine wp_cond_true (by kernel_rfl) ?_
 refine wp_skip ?_
 refine au_then ?_
 refine wp_seq ?_
 refine wp_block ?_
 refine sR ?_
 refine pV 17 (.slice (some ⟨g1, 0, none⟩) 2 2) ?_
 refine pV 18 (.int .i64 1) ?_
 refine pV 19 (.int .u64 (cv .u64 x)) ?_
 refine pV 20 (.int .u8 (cv .u8 (cv .u64 x))) ?_
 refine pV 21 (.pointer (some ⟨g1, 1, none⟩)) ?_
 refine pP M 0 rfl 1 (.int .u8 (cv .u8 (cv .u64 x))) (ls [.int .u8 0, .int .u8 (cv .u8 (cv .u64 x))]) (by decide) (put_ls _ 1 _ _ rfl) fun u3 M => ?_
 replace M : Mem ⟨w, []⟩ [⟨g1, .cells (av 2 (ls [.int .u8 0, .int .u8 (cv .u8 (cv .u64 x))])) 5⟩] u3 := M
 refine nT ?_
 refine rg_lit ?_
 refine pV 22 (.int .u64 (cv .u64 x)) ?_
 refine pV 23 (.int .u64 (sr (cv .u64 x) 8)) ?_
 refine pV 4 (.int .u64 (sr (cv .u64 x) 8)) ?_
 refine pl_nil ?_
 refine au_block ?_
 refine au_then ?_
 refine rg_lit ?_
 refine pV 15 (.int .i64 1) ?_
 refine pV 16 (.int .i64 0) ?_
 refine pV 5 (.int .i64 0) ?_
 refine nT ?_
 refine rounds_go ?_
 refine wp_seq ?_
 refine sR ?_
 refine pV 13 (.int .i64 0) ?_
 refine pV 14 (.bool true) ?_
 refine nT ?_
 refine wp_cond_true (by kernel_rfl) ?_
 refine wp_skip ?_
 refine au_then ?_
 refine wp_seq ?_
 refine wp_block ?_
 refine sR ?_
 refine pV 17 (.slice (some ⟨g1, 0, none⟩) 2 2) ?_
 refine pV 18 (.int .i64 0) ?_
 refine pV 19 (.int .u64 (sr (cv .u64 x) 8)) ?_
 refine pV 20 (.int .u8 (cv .u8 (sr (cv .u64 x) 8))) ?_
 refine pV 21 (.pointer (some ⟨g1, 0, none⟩)) ?_
 refine pP M 0 rfl 0 (.int .u8 (cv .u8 (sr (cv .u64 x) 8))) (ls [.int .u8 (cv .u8 (sr (cv .u64 x) 8)), .int .u8 (cv .u8 (cv .u64 x))]) (by decide) (put_ls _ 0 _ _ rfl) fun u4 M => ?_
 replace M : Mem ⟨w, []⟩ [⟨g1, .cells (av 2 (ls [.int .u8 (cv .u8 (sr (cv .u64 x) 8)), .int .u8 (cv .u8 (cv .u64 x))])) 5⟩] u4 := M
 refine nT ?_
 refine rg_lit ?_
 refine pV 22 (.int .u64 (sr (cv .u64 x) 8)) ?_
 refine pV 23 (.int .u64 (sr (sr (cv .u64 x) 8) 8)) ?_
 refine pV 4 (.int .u64 (sr (sr (cv .u64 x) 8) 8)) ?_
 refine pl_nil ?_
 refine au_block ?_
 refine au_then ?_
 refine rg_lit ?_
 refine pV 15 (.int .i64 0) ?_
 refine pV 16 (.int .i64 (-1)) ?_
 refine pV 5 (.int .i64 (-1)) ?_
 refine nT ?_
 refine rounds_go ?_
 refine wp_seq ?_
 refine sR ?_
 refine pV 13 (.int .i64 (-1)) ?_
 refine pV 14 (.bool false) ?_
 refine nT ?_
 refine wp_cond_false (by kernel_rfl) ?_
 refine wp_exit ?_
 refine au_then_exit ?_
 refine au_then_exit ?_
 refine au_block_exit ?_
 refine au_then ?_
 refine sR ?_
 refine pV 24 (.slice (some ⟨g1, 0, none⟩) 2 2) ?_
 refine pl_back M (want_no rfl) (some 25) rfl _ rfl 0 g1 2 2 (by kernel_rfl) _ rfl [(cv .u8 (sr (cv .u64 x) 8)), (cv .u8 (cv .u64 x))] 2 (sb_ls [(cv .u8 (sr (cv .u64 x) 8)), (cv .u8 (cv .u64 x))] _) rfl (by intro x hx; simp only [List.mem_cons, List.mem_nil_iff, or_false] at hx; rcases hx with rfl | rfl <;> exact cv8_nn _) ?_
 refine pV 2 (.string (bs [(cv .u8 (sr (cv .u64 x) 8)), (cv .u8 (cv .u64 x))])) ?_
 refine nT ?_
 refine wp_ret ?_
 have e0 : (be2 (cv .u64 x)) = (bs [(cv .u8 (sr (cv .u64 x) 8)), (cv .u8 (cv .u64 x))]) := rfl
 exact bodyPost_ret (v := .string (bs [(cv .u8 (sr (cv .u64 x) 8)), (cv .u8 (cv .u64 x))])) (results_tmp1 Try.results77 _ _ _ (by kernel_rfl)) (by kernel_rfl) ⟨by rw [e0], below_grown M.old⟩
set_option maxRecDepth 100000 in
set_option maxHeartbeats 4000000 in
set_option linter.unusedSimpArgs false in
theorem c_U16 (x : Int) (w : World) (hL : Laid w)  :
  Calls Try.prog 63 #[.int .u16 x] w fun r w' => r = .returned (.string (be2 (cv .u64 x))) ∧ Below w.heap.size w w' := by
 go_enter Try.func63, Try.ntmps63
 have M := Mem.start hL
 refine sR ?_
 refine pV 2 (.string ⟨#[]⟩) ?_
 refine nT ?_
 refine sR ?_
 refine pV 3 (.int .u16 x) ?_
 refine pC M 4 77 #[.int .u16 x] (.string (be2 (cv .u64 x))) (fun w M => c_bytes2 x w M.laid) fun u1 M => ?_
 refine pV 2 (.string (be2 (cv .u64 x))) ?_
 refine nT ?_
 refine wp_ret ?_
 exact bodyPost_ret (v := .string (be2 (cv .u64 x))) (results_tmp1 Try.results63 _ _ _ (by kernel_rfl)) (by kernel_rfl) ⟨rfl, below_grown M.old⟩
set_option maxRecDepth 100000 in
set_option maxHeartbeats 4000000 in
set_option linter.unusedSimpArgs false in
theorem c_bytes4 (x : Int) (w : World) (hL : Laid w)  :
  Calls Try.prog 75 #[.int .u32 x] w fun r w' => r = .returned (.string (be4 (cv .u64 x))) ∧ Below w.heap.size w w' := by
 go_enter Try.func75, Try.ntmps75
 have M := Mem.start hL
 refine sR ?_
 refine pV 2 (.string ⟨#[]⟩) ?_
 refine nT ?_
 refine sR ?_
 refine pC M 6 81 #[] (.int .i64 4) (fun w M => c_size4 w M.laid) fun u1 M => ?_
 refine pl_mk M (want_no rfl) (some 7) rfl (fun g1 => .slice (some ⟨g1, 0, none⟩) 4 4) (.cells (av 4 (ls [.int .u8 0, .int .u8 0, .int .u8 0, .int .u8 0])) 5) (fun _ => by kernel_rfl) fun g1 u2 M => ?_
 replace M : Mem ⟨w, []⟩ [⟨g1, .cells (av 4 (ls [.int .u8 0, .int .u8 0, .int .u8 0, .int .u8 0])) 5⟩] u2 := M
 refine pV 3 (.slice (some ⟨g1, 0, none⟩) 4 4) ?_
 refine nT ?_
 refine sR ?_
 refine pV 8 (.int .u32 x) ?_
 refine pV 9 (.int .u64 (cv .u64 x)) ?_
 refine pV 4 (.int .u64 (cv .u64 x)) ?_
 refine nT ?_
 refine wp_seq ?_
 refine sR ?_
 refine pV 10 (.slice (some ⟨g1, 0, none⟩) 4 4) ?_
 refine pV 11 (.int .i64 4) ?_
 refine pV 12 (.int .i64 3) ?_
 refine pV 5 (.int .i64 3) ?_
 refine nT ?_
 refine wp_block ?_
 refine wp_loop_rounds 5 ?_
 refine rounds_go ?_
 refine wp_seq ?_
 refine sR ?_
 refine pV 13 (.int .i64 3) ?_
 refine pV 14 (.bool true) ?_
 refine nT ?_
 refine wp_cond_true (by kernel_rfl) ?_
 refine wp_skip ?_
 refine au_then ?_
 refine wp_seq ?_
 refine wp_block ?_
 refine sR ?_
 refine pV 17 (.slice (some ⟨g1, 0, none⟩) 4 4) ?_
 refine pV 18 (.int .i64 3) ?_
 refine pV 19 (.int .u64 (cv .u64 x)) ?_
 refine pV 20 (.int .u8 (cv .u8 (cv .u64 x))) ?_
 refine pV 21 (.pointer (some ⟨g1, 3, none⟩)) ?_
 refine pP M 0 rfl 3 (.int .u8 (cv .u8 (cv .u64 x))) (ls [.int .u8 0, .int .u8 0, .int .u8 0, .int .u8 (cv .u8 (cv .u64 x))]) (by decide) (put_ls _ 3 _ _ rfl) fun u3 M => ?_
 replace M : Mem ⟨w, []⟩ [⟨g1, .cells (av 4 (ls [.int .u8 0, .int .u8 0, .int .u8 0, .int .u8 (cv .u8 (cv .u64 x))])) 5⟩] u3 := M
 refine nT ?_
 refine rg_lit ?_
 refine pV 22 (.int .u64 (cv .u64 x)) ?_
 refine pV 23 (.int .u64 (sr (cv .u64 x) 8)) ?_
 refine pV 4 (.int .u64 (sr (cv .u64 x) 8)) ?_
 refine pl_nil ?_
 refine au_block ?_
 refine au_then ?_
 refine rg_lit ?_
 refine pV 15 (.int .i64 3) ?_
 refine pV 16 (.int .i64 2) ?_
 refine pV 5 (.int .i64 2) ?_
 refine nT ?_
 refine rounds_go ?_
 refine wp_seq ?_
 refine sR ?_
 refine pV 13 (.int .i64 2) ?_
 refine pV 14 (.bool true) ?_
 refine nT ?_
 refine wp_cond_true (by kernel_rfl) ?_
 refine wp_skip ?_
 refine au_then ?_
 refine wp_seq ?_
 refine wp_block ?_
 refine sR ?_
 refine pV 17 (.slice (some ⟨g1, 0, none⟩) 4 4) ?_
 refine pV 18 (.int .i64 2) ?_
 refine pV 19 (.int .u64 (sr (cv .u64 x) 8)) ?_
 refine pV 20 (.int .u8 (cv .u8 (sr (cv .u64 x) 8))) ?_
 refine pV 21 (.pointer (some ⟨g1, 2, none⟩)) ?_
 refine pP M 0 rfl 2 (.int .u8 (cv .u8 (sr (cv .u64 x) 8))) (ls [.int .u8 0, .int .u8 0, .int .u8 (cv .u8 (sr (cv .u64 x) 8)), .int .u8 (cv .u8 (cv .u64 x))]) (by decide) (put_ls _ 2 _ _ rfl) fun u4 M => ?_
 replace M : Mem ⟨w, []⟩ [⟨g1, .cells (av 4 (ls [.int .u8 0, .int .u8 0, .int .u8 (cv .u8 (sr (cv .u64 x) 8)), .int .u8 (cv .u8 (cv .u64 x))])) 5⟩] u4 := M
 refine nT ?_
 refine rg_lit ?_
 refine pV 22 (.int .u64 (sr (cv .u64 x) 8)) ?_
 refine pV 23 (.int .u64 (sr (sr (cv .u64 x) 8) 8)) ?_
 refine pV 4 (.int .u64 (sr (sr (cv .u64 x) 8) 8)) ?_
 refine pl_nil ?_
 refine au_block ?_
 refine au_then ?_
 refine rg_lit ?_
 refine pV 15 (.int .i64 2) ?_
 refine pV 16 (.int .i64 1) ?_
 refine pV 5 (.int .i64 1) ?_
 refine nT ?_
 refine rounds_go ?_
 refine wp_seq ?_
 refine sR ?_
 refine pV 13 (.int .i64 1) ?_
 refine pV 14 (.bool true) ?_
 refine nT ?_
 refine wp_cond_true (by kernel_rfl) ?_
 refine wp_skip ?_
 refine au_then ?_
 refine wp_seq ?_
 refine wp_block ?_
 refine sR ?_
 refine pV 17 (.slice (some ⟨g1, 0, none⟩) 4 4) ?_
 refine pV 18 (.int .i64 1) ?_
 refine pV 19 (.int .u64 (sr (sr (cv .u64 x) 8) 8)) ?_
 refine pV 20 (.int .u8 (cv .u8 (sr (sr (cv .u64 x) 8) 8))) ?_
 refine pV 21 (.pointer (some ⟨g1, 1, none⟩)) ?_
 refine pP M 0 rfl 1 (.int .u8 (cv .u8 (sr (sr (cv .u64 x) 8) 8))) (ls [.int .u8 0, .int .u8 (cv .u8 (sr (sr (cv .u64 x) 8) 8)), .int .u8 (cv .u8 (sr (cv .u64 x) 8)), .int .u8 (cv .u8 (cv .u64 x))]) (by decide) (put_ls _ 1 _ _ rfl) fun u5 M => ?_
 replace M : Mem ⟨w, []⟩ [⟨g1, .cells (av 4 (ls [.int .u8 0, .int .u8 (cv .u8 (sr (sr (cv .u64 x) 8) 8)), .int .u8 (cv .u8 (sr (cv .u64 x) 8)), .int .u8 (cv .u8 (cv .u64 x))])) 5⟩] u5 := M
 refine nT ?_
 refine rg_lit ?_
 refine pV 22 (.int .u64 (sr (sr (cv .u64 x) 8) 8)) ?_
 refine pV 23 (.int .u64 (sr (sr (sr (cv .u64 x) 8) 8) 8)) ?_
 refine pV 4 (.int .u64 (sr (sr (sr (cv .u64 x) 8) 8) 8)) ?_
 refine pl_nil ?_
 refine au_block ?_
 refine au_then ?_
 refine rg_lit ?_
 refine pV 15 (.int .i64 1) ?_
 refine pV 16 (.int .i64 0) ?_
 refine pV 5 (.int .i64 0) ?_
 refine nT ?_
 refine rounds_go ?_
 refine wp_seq ?_
 refine sR ?_
 refine pV 13 (.int .i64 0) ?_
 refine pV 14 (.bool true) ?_
 refine nT ?_
 refine wp_cond_true (by kernel_rfl) ?_
 refine wp_skip ?_
 refine au_then ?_
 refine wp_seq ?_
 refine wp_block ?_
 refine sR ?_
 refine pV 17 (.slice (some ⟨g1, 0, none⟩) 4 4) ?_
 refine pV 18 (.int .i64 0) ?_
 refine pV 19 (.int .u64 (sr (sr (sr (cv .u64 x) 8) 8) 8)) ?_
 refine pV 20 (.int .u8 (cv .u8 (sr (sr (sr (cv .u64 x) 8) 8) 8))) ?_
 refine pV 21 (.pointer (some ⟨g1, 0, none⟩)) ?_
 refine pP M 0 rfl 0 (.int .u8 (cv .u8 (sr (sr (sr (cv .u64 x) 8) 8) 8))) (ls [.int .u8 (cv .u8 (sr (sr (sr (cv .u64 x) 8) 8) 8)), .int .u8 (cv .u8 (sr (sr (cv .u64 x) 8) 8)), .int .u8 (cv .u8 (sr (cv .u64 x) 8)), .int .u8 (cv .u8 (cv .u64 x))]) (by decide) (put_ls _ 0 _ _ rfl) fun u6 M => ?_
 replace M : Mem ⟨w, []⟩ [⟨g1, .cells (av 4 (ls [.int .u8 (cv .u8 (sr (sr (sr (cv .u64 x) 8) 8) 8)), .int .u8 (cv .u8 (sr (sr (cv .u64 x) 8) 8)), .int .u8 (cv .u8 (sr (cv .u64 x) 8)), .int .u8 (cv .u8 (cv .u64 x))])) 5⟩] u6 := M
 refine nT ?_
 refine rg_lit ?_
 refine pV 22 (.int .u64 (sr (sr (sr (cv .u64 x) 8) 8) 8)) ?_
 refine pV 23 (.int .u64 (sr (sr (sr (sr (cv .u64 x) 8) 8) 8) 8)) ?_
 refine pV 4 (.int .u64 (sr (sr (sr (sr (cv .u64 x) 8) 8) 8) 8)) ?_
 refine pl_nil ?_
 refine au_block ?_
 refine au_then ?_
 refine rg_lit ?_
 refine pV 15 (.int .i64 0) ?_
 refine pV 16 (.int .i64 (-1)) ?_
 refine pV 5 (.int .i64 (-1)) ?_
 refine nT ?_
 refine rounds_go ?_
 refine wp_seq ?_
 refine sR ?_
 refine pV 13 (.int .i64 (-1)) ?_
 refine pV 14 (.bool false) ?_
 refine nT ?_
 refine wp_cond_false (by kernel_rfl) ?_
 refine wp_exit ?_
 refine au_then_exit ?_
 refine au_then_exit ?_
 refine au_block_exit ?_
 refine au_then ?_
 refine sR ?_
 refine pV 24 (.slice (some ⟨g1, 0, none⟩) 4 4) ?_
 refine pl_back M (want_no rfl) (some 25) rfl _ rfl 0 g1 4 4 (by kernel_rfl) _ rfl [(cv .u8 (sr (sr (sr (cv .u64 x) 8) 8) 8)), (cv .u8 (sr (sr (cv .u64 x) 8) 8)), (cv .u8 (sr (cv .u64 x) 8)), (cv .u8 (cv .u64 x))] 4 (sb_ls [(cv .u8 (sr (sr (sr (cv .u64 x) 8) 8) 8)), (cv .u8 (sr (sr (cv .u64 x) 8) 8)), (cv .u8 (sr (cv .u64 x) 8)), (cv .u8 (cv .u64 x))] _) rfl (by intro x hx; simp only [List.mem_cons, List.mem_nil_iff, or_false] at hx; rcases hx with rfl | rfl | rfl | rfl <;> exact cv8_nn _) ?_
 refine pV 2 (.string (bs [(cv .u8 (sr (sr (sr (cv .u64 x) 8) 8) 8)), (cv .u8 (sr (sr (cv .u64 x) 8) 8)), (cv .u8 (sr (cv .u64 x) 8)), (cv .u8 (cv .u64 x))])) ?_
 refine nT ?_
 refine wp_ret ?_
 have e0 : (be4 (cv .u64 x)) = (bs [(cv .u8 (sr (sr (sr (cv .u64 x) 8) 8) 8)), (cv .u8 (sr (sr (cv .u64 x) 8) 8)), (cv .u8 (sr (cv .u64 x) 8)), (cv .u8 (cv .u64 x))]) := rfl
 exact bodyPost_ret (v := .string (bs [(cv .u8 (sr (sr (sr (cv .u64 x) 8) 8) 8)), (cv .u8 (sr (sr (cv .u64 x) 8) 8)), (cv .u8 (sr (cv .u64 x) 8)), (cv .u8 (cv .u64 x))])) (results_tmp1 Try.results75 _ _ _ (by kernel_rfl)) (by kernel_rfl) ⟨by rw [e0], below_grown M.old⟩
set_option maxRecDepth 100000 in
set_option maxHeartbeats 4000000 in
set_option linter.unusedSimpArgs false in
theorem c_U32 (x : Int) (w : World) (hL : Laid w)  :
  Calls Try.prog 61 #[.int .u32 x] w fun r w' => r = .returned (.string (be4 (cv .u64 x))) ∧ Below w.heap.size w w' := by
 go_enter Try.func61, Try.ntmps61
 have M := Mem.start hL
 refine sR ?_
 refine pV 2 (.string ⟨#[]⟩) ?_
 refine nT ?_
 refine sR ?_
 refine pV 3 (.int .u32 x) ?_
 refine pC M 4 75 #[.int .u32 x] (.string (be4 (cv .u64 x))) (fun w M => c_bytes4 x w M.laid) fun u1 M => ?_
 refine pV 2 (.string (be4 (cv .u64 x))) ?_
 refine nT ?_
 refine wp_ret ?_
 exact bodyPost_ret (v := .string (be4 (cv .u64 x))) (results_tmp1 Try.results61 _ _ _ (by kernel_rfl)) (by kernel_rfl) ⟨rfl, below_grown M.old⟩
set_option maxRecDepth 100000 in
set_option maxHeartbeats 4000000 in
set_option linter.unusedSimpArgs false in
theorem c_bytes8 (x : Int) (w : World) (hL : Laid w)  :
  Calls Try.prog 76 #[.int .u64 x] w fun r w' => r = .returned (.string (be8 x)) ∧ Below w.heap.size w w' := by
 go_enter Try.func76, Try.ntmps76
 have M := Mem.start hL
 refine sR ?_
 refine pV 2 (.string ⟨#[]⟩) ?_
 refine nT ?_
 refine sR ?_
 refine pC M 6 82 #[] (.int .i64 8) (fun w M => c_size8 w M.laid) fun u1 M => ?_
 refine pl_mk M (want_no rfl) (some 7) rfl (fun g1 => .slice (some ⟨g1, 0, none⟩) 8 8) (.cells (av 8 (ls [.int .u8 0, .int .u8 0, .int .u8 0, .int .u8 0, .int .u8 0, .int .u8 0, .int .u8 0, .int .u8 0])) 5) (fun _ => by kernel_rfl) fun g1 u2 M => ?_
 replace M : Mem ⟨w, []⟩ [⟨g1, .cells (av 8 (ls [.int .u8 0, .int .u8 0, .int .u8 0, .int .u8 0, .int .u8 0, .int .u8 0, .int .u8 0, .int .u8 0])) 5⟩] u2 := M
 refine pV 3 (.slice (some ⟨g1, 0, none⟩) 8 8) ?_
 refine nT ?_
 refine sR ?_
 refine pV 8 (.int .u64 x) ?_
 refine pV 4 (.int .u64 x) ?_
 refine nT ?_
 refine wp_seq ?_
 refine sR ?_
 refine pV 9 (.slice (some ⟨g1, 0, none⟩) 8 8) ?_
 refine pV 10 (.int .i64 8) ?_
 refine pV 11 (.int .i64 7) ?_
 refine pV 5 (.int .i64 7) ?_
 refine nT ?_
 refine wp_block ?_
 refine wp_loop_rounds 9 ?_
 refine rounds_go ?_
 refine wp_seq ?_
 refine sR ?_
 refine pV 12 (.int .i64 7) ?_
 refine pV 13 (.bool true) ?_
 refine nT ?_
 refine wp_cond_true (by kernel_rfl) ?_
 refine wp_skip ?_
 refine au_then ?_
 refine wp_seq ?_
 refine wp_block ?_
 refine sR ?_
 refine pV 16 (.slice (some ⟨g1, 0, none⟩) 8 8) ?_
 refine pV 17 (.int .i64 7) ?_
 refine pV 18 (.int .u64 x) ?_
 refine pV 19 (.int .u8 (cv .u8 x)) ?_
 refine pV 20 (.pointer (some ⟨g1, 7, none⟩)) ?_
 refine pP M 0 rfl 7 (.int .u8 (cv .u8 x)) (ls [.int .u8 0, .int .u8 0, .int .u8 0, .int .u8 0, .int .u8 0, .int .u8 0, .int .u8 0, .int .u8 (cv .u8 x)]) (by decide) (put_ls _ 7 _ _ rfl) fun u3 M => ?_
 replace M : Mem ⟨w, []⟩ [⟨g1, .cells (av 8 (ls [.int .u8 0, .int .u8 0, .int .u8 0, .int .u8 0, .int .u8 0, .int .u8 0, .int .u8 0, .int .u8 (cv .u8 x)])) 5⟩] u3 := M
 refine nT ?_
 refine rg_lit ?_
 refine pV 21 (.int .u64 x) ?_
 refine pV 22 (.int .u64 (sr x 8)) ?_
 refine pV 4 (.int .u64 (sr x 8)) ?_
 refine pl_nil ?_
 refine au_block ?_
 refine au_then ?_
 refine rg_lit ?_
 refine pV 14 (.int .i64 7) ?_
 refine pV 15 (.int .i64 6) ?_
 refine pV 5 (.int .i64 6) ?_
 refine nT ?_
 refine rounds_go ?_
 refine wp_seq ?_
 refine sR ?_
 refine pV 12 (.int .i64 6) ?_
 refine pV 13 (.bool true) ?_
 refine nT ?_
 refine wp_cond_true (by kernel_rfl) ?_
 refine wp_skip ?_
 refine au_then ?_
 refine wp_seq ?_
 refine wp_block ?_
 refine sR ?_
 refine pV 16 (.slice (some ⟨g1, 0, none⟩) 8 8) ?_
 refine pV 17 (.int .i64 6) ?_
 refine pV 18 (.int .u64 (sr x 8)) ?_
 refine pV 19 (.int .u8 (cv .u8 (sr x 8))) ?_
 refine pV 20 (.pointer (some ⟨g1, 6, none⟩)) ?_
 refine pP M 0 rfl 6 (.int .u8 (cv .u8 (sr x 8))) (ls [.int .u8 0, .int .u8 0, .int .u8 0, .int .u8 0, .int .u8 0, .int .u8 0, .int .u8 (cv .u8 (sr x 8)), .int .u8 (cv .u8 x)]) (by decide) (put_ls _ 6 _ _ rfl) fun u4 M => ?_
 replace M : Mem ⟨w, []⟩ [⟨g1, .cells (av 8 (ls [.int .u8 0, .int .u8 0, .int .u8 0, .int .u8 0, .int .u8 0, .int .u8 0, .int .u8 (cv .u8 (sr x 8)), .int .u8 (cv .u8 x)])) 5⟩] u4 := M
 refine nT ?_
 refine rg_lit ?_
 refine pV 21 (.int .u64 (sr x 8)) ?_
 refine pV 22 (.int .u64 (sr (sr x 8) 8)) ?_
 refine pV 4 (.int .u64 (sr (sr x 8) 8)) ?_
 refine pl_nil ?_
 refine au_block ?_
 refine au_then ?_
 refine rg_lit ?_
 refine pV 14 (.int .i64 6) ?_
 refine pV 15 (.int .i64 5) ?_
 refine pV 5 (.int .i64 5) ?_
 refine nT ?_
 refine rounds_go ?_
 refine wp_seq ?_
 refine sR ?_
 refine pV 12 (.int .i64 5) ?_
 refine pV 13 (.bool true) ?_
 refine nT ?_
 refine wp_cond_true (by kernel_rfl) ?_
 refine wp_skip ?_
 refine au_then ?_
 refine wp_seq ?_
 refine wp_block ?_
 refine sR ?_
 refine pV 16 (.slice (some ⟨g1, 0, none⟩) 8 8) ?_
 refine pV 17 (.int .i64 5) ?_
 refine pV 18 (.int .u64 (sr (sr x 8) 8)) ?_
 refine pV 19 (.int .u8 (cv .u8 (sr (sr x 8) 8))) ?_
 refine pV 20 (.pointer (some ⟨g1, 5, none⟩)) ?_
 refine pP M 0 rfl 5 (.int .u8 (cv .u8 (sr (sr x 8) 8))) (ls [.int .u8 0, .int .u8 0, .int .u8 0, .int .u8 0, .int .u8 0, .int .u8 (cv .u8 (sr (sr x 8) 8)), .int .u8 (cv .u8 (sr x 8)), .int .u8 (cv .u8 x)]) (by decide) (put_ls _ 5 _ _ rfl) fun u5 M => ?_
 replace M : Mem ⟨w, []⟩ [⟨g1, .cells (av 8 (ls [.int .u8 0, .int .u8 0, .int .u8 0, .int .u8 0, .int .u8 0, .int .u8 (cv .u8 (sr (sr x 8) 8)), .int .u8 (cv .u8 (sr x 8)), .int .u8 (cv .u8 x)])) 5⟩] u5 := M
 refine nT ?_
 refine rg_lit ?_
 refine pV 21 (.int .u64 (sr (sr x 8) 8)) ?_
 refine pV 22 (.int .u64 (sr (sr (sr x 8) 8) 8)) ?_
 refine pV 4 (.int .u64 (sr (sr (sr x 8) 8) 8)) ?_
 refine pl_nil ?_
 refine au_block ?_
 refine au_then ?_
 refine rg_lit ?_
 refine pV 14 (.int .i64 5) ?_
 refine pV 15 (.int .i64 4) ?_
 refine pV 5 (.int .i64 4) ?_
 refine nT ?_
 refine rounds_go ?_
 refine wp_seq ?_
 refine sR ?_
 refine pV 12 (.int .i64 4) ?_
 refine pV 13 (.bool true) ?_
 refine nT ?_
 refine wp_cond_true (by kernel_rfl) ?_
 refine wp_skip ?_
 refine au_then ?_
 refine wp_seq ?_
 refine wp_block ?_
 refine sR ?_
 refine pV 16 (.slice (some ⟨g1, 0, none⟩) 8 8) ?_
 refine pV 17 (.int .i64 4) ?_
 refine pV 18 (.int .u64 (sr (sr (sr x 8) 8) 8)) ?_
 refine pV 19 (.int .u8 (cv .u8 (sr (sr (sr x 8) 8) 8))) ?_
 refine pV 20 (.pointer (some ⟨g1, 4, none⟩)) ?_
 refine pP M 0 rfl 4 (.int .u8 (cv .u8 (sr (sr (sr x 8) 8) 8))) (ls [.int .u8 0, .int .u8 0, .int .u8 0, .int .u8 0, .int .u8 (cv .u8 (sr (sr (sr x 8) 8) 8)), .int .u8 (cv .u8 (sr (sr x 8) 8)), .int .u8 (cv .u8 (sr x 8)), .int .u8 (cv .u8 x)]) (by decide) (put_ls _ 4 _ _ rfl) fun u6 M => ?_
 replace M : Mem ⟨w, []⟩ [⟨g1, .cells (av 8 (ls [.int .u8 0, .int .u8 0, .int .u8 0, .int .u8 0, .int .u8 (cv .u8 (sr (sr (sr x 8) 8) 8)), .int .u8 (cv .u8 (sr (sr x 8) 8)), .int .u8 (cv .u8 (sr x 8)), .int .u8 (cv .u8 x)])) 5⟩] u6 := M
 refine nT ?_
 refine rg_lit ?_
 refine pV 21 (.int .u64 (sr (sr (sr x 8) 8) 8)) ?_
 refine pV 22 (.int .u64 (sr (sr (sr (sr x 8) 8) 8) 8)) ?_
 refine pV 4 (.int .u64 (sr (sr (sr (sr x 8) 8) 8) 8)) ?_
 refine pl_nil ?_
 refine au_block ?_
 refine au_then ?_
 refine rg_lit ?_
 refine pV 14 (.int .i64 4) ?_
 refine pV 15 (.int .i64 3) ?_
 refine pV 5 (.int .i64 3) ?_
 refine nT ?_
 refine rounds_go ?_
 refine wp_seq ?_
 refine sR ?_
 refine pV 12 (.int .i64 3) ?_
 refine pV 13 (.bool true) ?_
 refine nT ?_
 refine wp_cond_true (by kernel_rfl) ?_
 refine wp_skip ?_
 refine au_then ?_
 refine wp_seq ?_
 refine wp_block ?_
 refine sR ?_
 refine pV 16 (.slice (some ⟨g1, 0, none⟩) 8 8) ?_
 refine pV 17 (.int .i64 3) ?_
 refine pV 18 (.int .u64 (sr (sr (sr (sr x 8) 8) 8) 8)) ?_
 refine pV 19 (.int .u8 (cv .u8 (sr (sr (sr (sr x 8) 8) 8) 8))) ?_
 refine pV 20 (.pointer (some ⟨g1, 3, none⟩)) ?_
 refine pP M 0 rfl 3 (.int .u8 (cv .u8 (sr (sr (sr (sr x 8) 8) 8) 8))) (ls [.int .u8 0, .int .u8 0, .int .u8 0, .int .u8 (cv .u8 (sr (sr (sr (sr x 8) 8) 8) 8)), .int .u8 (cv .u8 (sr (sr (sr x 8) 8) 8)), .int .u8 (cv .u8 (sr (sr x 8) 8)), .int .u8 (cv .u8 (sr x 8)), .int .u8 (cv .u8 x)]) (by decide) (put_ls _ 3 _ _ rfl) fun u7 M => ?_
 replace M : Mem ⟨w, []⟩ [⟨g1, .cells (av 8 (ls [.int .u8 0, .int .u8 0, .int .u8 0, .int .u8 (cv .u8 (sr (sr (sr (sr x 8) 8) 8) 8)), .int .u8 (cv .u8 (sr (sr (sr x 8) 8) 8)), .int .u8 (cv .u8 (sr (sr x 8) 8)), .int .u8 (cv .u8 (sr x 8)), .int .u8 (cv .u8 x)])) 5⟩] u7 := M
 refine nT ?_
 refine rg_lit ?_
 refine pV 21 (.int .u64 (sr (sr (sr (sr x 8) 8) 8) 8)) ?_
 refine pV 22 (.int .u64 (sr (sr (sr (sr (sr x 8) 8) 8) 8) 8)) ?_
 refine pV 4 (.int .u64 (sr (sr (sr (sr (sr x 8) 8) 8) 8) 8)) ?_
 refine pl_nil ?_
 refine au_block ?_
 refine au_then ?_
 refine rg_lit ?_
 refine pV 14 (.int .i64 3) ?_
 refine pV 15 (.int .i64 2) ?_
 refine pV 5 (.int .i64 2) ?_
 refine nT ?_
 refine rounds_go ?_
 refine wp_seq ?_
 refine sR ?_
 refine pV 12 (.int .i64 2) ?_
 refine pV 13 (.bool true) ?_
 refine nT ?_
 refine wp_cond_true (by kernel_rfl) ?_
 refine wp_skip ?_
 refine au_then ?_
 refine wp_seq ?_
 refine wp_block ?_
 refine sR ?_
 refine pV 16 (.slice (some ⟨g1, 0, none⟩) 8 8) ?_
 refine pV 17 (.int .i64 2) ?_
 refine pV 18 (.int .u64 (sr (sr (sr (sr (sr x 8) 8) 8) 8) 8)) ?_
 refine pV 19 (.int .u8 (cv .u8 (sr (sr (sr (sr (sr x 8) 8) 8) 8) 8))) ?_
 refine pV 20 (.pointer (some ⟨g1, 2, none⟩)) ?_
 refine pP M 0 rfl 2 (.int .u8 (cv .u8 (sr (sr (sr (sr (sr x 8) 8) 8) 8) 8))) (ls [.int .u8 0, .int .u8 0, .int .u8 (cv .u8 (sr (sr (sr (sr (sr x 8) 8) 8) 8) 8)), .int .u8 (cv .u8 (sr (sr (sr (sr x 8) 8) 8) 8)), .int .u8 (cv .u8 (sr (sr (sr x 8) 8) 8)), .int .u8 (cv .u8 (sr (sr x 8) 8)), .int .u8 (cv .u8 (sr x 8)), .int .u8 (cv .u8 x)]) (by decide) (put_ls _ 2 _ _ rfl) fun u8 M => ?_
 replace M : Mem ⟨w, []⟩ [⟨g1, .cells (av 8 (ls [.int .u8 0, .int .u8 0, .int .u8 (cv .u8 (sr (sr (sr (sr (sr x 8) 8) 8) 8) 8)), .int .u8 (cv .u8 (sr (sr (sr (sr x 8) 8) 8) 8)), .int .u8 (cv .u8 (sr (sr (sr x 8) 8) 8)), .int .u8 (cv .u8 (sr (sr x 8) 8)), .int .u8 (cv .u8 (sr x 8)), .int .u8 (cv .u8 x)])) 5⟩] u8 := M
 refine nT ?_
 refine rg_lit ?_
 refine pV 21 (.int .u64 (sr (sr (sr (sr (sr x 8) 8) 8) 8) 8)) ?_
 refine pV 22 (.int .u64 (sr (sr (sr (sr (sr (sr x 8) 8) 8) 8) 8) 8)) ?_
 refine pV 4 (.int .u64 (sr (sr (sr (sr (sr (sr x 8) 8) 8) 8) 8) 8)) ?_
 refine pl_nil ?_
 refine au_block ?_
 refine au_then ?_
 refine rg_lit ?_
 refine pV 14 (.int .i64 2) ?_
 refine pV 15 (.int .i64 1) ?_
 refine pV 5 (.int .i64 1) ?_
 refine nT ?_
 refine rounds_go ?_
 refine wp_seq ?_
 refine sR ?_
 refine pV 12 (.int .i64 1) ?_
 refine pV 13 (.bool true) ?_
 refine nT ?_
 refine wp_cond_true (by kernel_rfl) ?_
 refine wp_skip ?_
 refine au_then ?_
 refine wp_seq ?_
 refine wp_block ?_
 refine sR ?_
 refine pV 16 (.slice (some ⟨g1, 0, none⟩) 8 8) ?_
 refine pV 17 (.int .i64 1) ?_
 refine pV 18 (.int .u64 (sr (sr (sr (sr (sr (sr x 8) 8) 8) 8) 8) 8)) ?_
 refine pV 19 (.int .u8 (cv .u8 (sr (sr (sr (sr (sr (sr x 8) 8) 8) 8) 8) 8))) ?_
 refine pV 20 (.pointer (some ⟨g1, 1, none⟩)) ?_
 refine pP M 0 rfl 1 (.int .u8 (cv .u8 (sr (sr (sr (sr (sr (sr x 8) 8) 8) 8) 8) 8))) (ls [.int .u8 0, .int .u8 (cv .u8 (sr (sr (sr (sr (sr (sr x 8) 8) 8) 8) 8) 8)), .int .u8 (cv .u8 (sr (sr (sr (sr (sr x 8) 8) 8) 8) 8)), .int .u8 (cv .u8 (sr (sr (sr (sr x 8) 8) 8) 8)), .int .u8 (cv .u8 (sr (sr (sr x 8) 8) 8)), .int .u8 (cv .u8 (sr (sr x 8) 8)), .int .u8 (cv .u8 (sr x 8)), .int .u8 (cv .u8 x)]) (by decide) (put_ls _ 1 _ _ rfl) fun u9 M => ?_
 replace M : Mem ⟨w, []⟩ [⟨g1, .cells (av 8 (ls [.int .u8 0, .int .u8 (cv .u8 (sr (sr (sr (sr (sr (sr x 8) 8) 8) 8) 8) 8)), .int .u8 (cv .u8 (sr (sr (sr (sr (sr x 8) 8) 8) 8) 8)), .int .u8 (cv .u8 (sr (sr (sr (sr x 8) 8) 8) 8)), .int .u8 (cv .u8 (sr (sr (sr x 8) 8) 8)), .int .u8 (cv .u8 (sr (sr x 8) 8)), .int .u8 (cv .u8 (sr x 8)), .int .u8 (cv .u8 x)])) 5⟩] u9 := M
 refine nT ?_
 refine rg_lit ?_
 refine pV 21 (.int .u64 (sr (sr (sr (sr (sr (sr x 8) 8) 8) 8) 8) 8)) ?_
 refine pV 22 (.int .u64 (sr (sr (sr (sr (sr (sr (sr x 8) 8) 8) 8) 8) 8) 8)) ?_
 refine pV 4 (.int .u64 (sr (sr (sr (sr (sr (sr (sr x 8) 8) 8) 8) 8) 8) 8)) ?_
 refine pl_nil ?_
 refine au_block ?_
 refine au_then ?_
 refine rg_lit ?_
 refine pV 14 (.int .i64 1) ?_
 refine pV 15 (.int .i64 0) ?_
 refine pV 5 (.int .i64 0) ?_
 refine nT ?_
 refine rounds_go ?_
 refine wp_seq ?_
 refine sR ?_
 refine pV 12 (.int .i64 0) ?_
 refine pV 13 (.bool true) ?_
 refine nT ?_
 refine wp_cond_true (by kernel_rfl) ?_
 refine wp_skip ?_
 refine au_then ?_
 refine wp_seq ?_
 refine wp_block ?_
 refine sR ?_
 refine pV 16 (.slice (some ⟨g1, 0, none⟩) 8 8) ?_
 refine pV 17 (.int .i64 0) ?_
 refine pV 18 (.int .u64 (sr (sr (sr (sr (sr (sr (sr x 8) 8) 8) 8) 8) 8) 8)) ?_
 refine pV 19 (.int .u8 (cv .u8 (sr (sr (sr (sr (sr (sr (sr x 8) 8) 8) 8) 8) 8) 8))) ?_
 refine pV 20 (.pointer (some ⟨g1, 0, none⟩)) ?_
 refine pP M 0 rfl 0 (.int .u8 (cv .u8 (sr (sr (sr (sr (sr (sr (sr x 8) 8) 8) 8) 8) 8) 8))) (ls [.int .u8 (cv .u8 (sr (sr (sr (sr (sr (sr (sr x 8) 8) 8) 8) 8) 8) 8)), .int .u8 (cv .u8 (sr (sr (sr (sr (sr (sr x 8) 8) 8) 8) 8) 8)), .int .u8 (cv .u8 (sr (sr (sr (sr (sr x 8) 8) 8) 8) 8)), .int .u8 (cv .u8 (sr (sr (sr (sr x 8) 8) 8) 8)), .int .u8 (cv .u8 (sr (sr (sr x 8) 8) 8)), .int .u8 (cv .u8 (sr (sr x 8) 8)), .int .u8 (cv .u8 (sr x 8)), .int .u8 (cv .u8 x)]) (by decide) (put_ls _ 0 _ _ rfl) fun u10 M => ?_
 replace M : Mem ⟨w, []⟩ [⟨g1, .cells (av 8 (ls [.int .u8 (cv .u8 (sr (sr (sr (sr (sr (sr (sr x 8) 8) 8) 8) 8) 8) 8)), .int .u8 (cv .u8 (sr (sr (sr (sr (sr (sr x 8) 8) 8) 8) 8) 8)), .int .u8 (cv .u8 (sr (sr (sr (sr (sr x 8) 8) 8) 8) 8)), .int .u8 (cv .u8 (sr (sr (sr (sr x 8) 8) 8) 8)), .int .u8 (cv .u8 (sr (sr (sr x 8) 8) 8)), .int .u8 (cv .u8 (sr (sr x 8) 8)), .int .u8 (cv .u8 (sr x 8)), .int .u8 (cv .u8 x)])) 5⟩] u10 := M
 refine nT ?_
 refine rg_lit ?_
 refine pV 21 (.int .u64 (sr (sr (sr (sr (sr (sr (sr x 8) 8) 8) 8) 8) 8) 8)) ?_
 refine pV 22 (.int .u64 (sr (sr (sr (sr (sr (sr (sr (sr x 8) 8) 8) 8) 8) 8) 8) 8)) ?_
 refine pV 4 (.int .u64 (sr (sr (sr (sr (sr (sr (sr (sr x 8) 8) 8) 8) 8) 8) 8) 8)) ?_
 refine pl_nil ?_
 refine au_block ?_
 refine au_then ?_
 refine rg_lit ?_
 refine pV 14 (.int .i64 0) ?_
 refine pV 15 (.int .i64 (-1)) ?_
 refine pV 5 (.int .i64 (-1)) ?_
 refine nT ?_
 refine rounds_go ?_
 refine wp_seq ?_
 refine sR ?_
 refine pV 12 (.int .i64 (-1)) ?_
 refine pV 13 (.bool false) ?_
 refine nT ?_
 refine wp_cond_false (by kernel_rfl) ?_
 refine wp_exit ?_
 refine au_then_exit ?_
 refine au_then_exit ?_
 refine au_block_exit ?_
 refine au_then ?_
 refine sR ?_
 refine pV 23 (.slice (some ⟨g1, 0, none⟩) 8 8) ?_
 refine pl_back M (want_no rfl) (some 24) rfl _ rfl 0 g1 8 8 (by kernel_rfl) _ rfl [(cv .u8 (sr (sr (sr (sr (sr (sr (sr x 8) 8) 8) 8) 8) 8) 8)), (cv .u8 (sr (sr (sr (sr (sr (sr x 8) 8) 8) 8) 8) 8)), (cv .u8 (sr (sr (sr (sr (sr x 8) 8) 8) 8) 8)), (cv .u8 (sr (sr (sr (sr x 8) 8) 8) 8)), (cv .u8 (sr (sr (sr x 8) 8) 8)), (cv .u8 (sr (sr x 8) 8)), (cv .u8 (sr x 8)), (cv .u8 x)] 8 (sb_ls [(cv .u8 (sr (sr (sr (sr (sr (sr (sr x 8) 8) 8) 8) 8) 8) 8)), (cv .u8 (sr (sr (sr (sr (sr (sr x 8) 8) 8) 8) 8) 8)), (cv .u8 (sr (sr (sr (sr (sr x 8) 8) 8) 8) 8)), (cv .u8 (sr (sr (sr (sr x 8) 8) 8) 8)), (cv .u8 (sr (sr (sr x 8) 8) 8)), (cv .u8 (sr (sr x 8) 8)), (cv .u8 (sr x 8)), (cv .u8 x)] _) rfl (by intro x hx; simp only [List.mem_cons, List.mem_nil_iff, or_false] at hx; rcases hx with rfl | rfl | rfl | rfl | rfl | rfl | rfl | rfl <;> exact cv8_nn _) ?_
 refine pV 2 (.string (bs [(cv .u8 (sr (sr (sr (sr (sr (sr (sr x 8) 8) 8) 8) 8) 8) 8)), (cv .u8 (sr (sr (sr (sr (sr (sr x 8) 8) 8) 8) 8) 8)), (cv .u8 (sr (sr (sr (sr (sr x 8) 8) 8) 8) 8)), (cv .u8 (sr (sr (sr (sr x 8) 8) 8) 8)), (cv .u8 (sr (sr (sr x 8) 8) 8)), (cv .u8 (sr (sr x 8) 8)), (cv .u8 (sr x 8)), (cv .u8 x)])) ?_
 refine nT ?_
 refine wp_ret ?_
 have e0 : (be8 x) = (bs [(cv .u8 (sr (sr (sr (sr (sr (sr (sr x 8) 8) 8) 8) 8) 8) 8)), (cv .u8 (sr (sr (sr (sr (sr (sr x 8) 8) 8) 8) 8) 8)), (cv .u8 (sr (sr (sr (sr (sr x 8) 8) 8) 8) 8)), (cv .u8 (sr (sr (sr (sr x 8) 8) 8) 8)), (cv .u8 (sr (sr (sr x 8) 8) 8)), (cv .u8 (sr (sr x 8) 8)), (cv .u8 (sr x 8)), (cv .u8 x)]) := rfl
 exact bodyPost_ret (v := .string (bs [(cv .u8 (sr (sr (sr (sr (sr (sr (sr x 8) 8) 8) 8) 8) 8) 8)), (cv .u8 (sr (sr (sr (sr (sr (sr x 8) 8) 8) 8) 8) 8)), (cv .u8 (sr (sr (sr (sr (sr x 8) 8) 8) 8) 8)), (cv .u8 (sr (sr (sr (sr x 8) 8) 8) 8)), (cv .u8 (sr (sr (sr x 8) 8) 8)), (cv .u8 (sr (sr x 8) 8)), (cv .u8 (sr x 8)), (cv .u8 x)])) (results_tmp1 Try.results76 _ _ _ (by kernel_rfl)) (by kernel_rfl) ⟨by rw [e0], below_grown M.old⟩
set_option maxRecDepth 100000 in
set_option maxHeartbeats 4000000 in
set_option linter.unusedSimpArgs false in
theorem c_U64 (x : Int) (w : World) (hL : Laid w)  :
  Calls Try.prog 62 #[.int .u64 x] w fun r w' => r = .returned (.string (be8 x)) ∧ Below w.heap.size w w' := by
 go_enter Try.func62, Try.ntmps62
 have M := Mem.start hL
 refine sR ?_
 refine pV 2 (.string ⟨#[]⟩) ?_
 refine nT ?_
 refine sR ?_
 refine pV 3 (.int .u64 x) ?_
 refine pC M 4 76 #[.int .u64 x] (.string (be8 x)) (fun w M => c_bytes8 x w M.laid) fun u1 M => ?_
 refine pV 2 (.string (be8 x)) ?_
 refine nT ?_
 refine wp_ret ?_
 exact bodyPost_ret (v := .string (be8 x)) (results_tmp1 Try.results62 _ _ _ (by kernel_rfl)) (by kernel_rfl) ⟨rfl, below_grown M.old⟩
end Go.Proofs.Ytbechjlkmajcoaa

namespace Go.Proofs.Ytbechjlkmajcoaa
open Go.RowKit
theorem Mem.geAt {w : World} {L : List Blk} {W : World} (M : Mem ⟨w, []⟩ L W) (i : Nat) {b : Blk} (hi : L[i]? = some b) : w.heap.size ≤ b.g := (M.ge b (List.mem_of_getElem? hi)).resolve_right (by simp)
theorem vs8_sb (s : ByteArray) (j : Nat) (h : j < s.size) : (vs8 (sb s))[j]? = some (.int .u8 (bt s j)) := by
 unfold vs8
 rw [List.getElem?_map, sb_get s j h]
 rfl
def ff (f e : Int) : Int := if f = 0 then e else f
def tkV (s : ByteArray) (f n : Int) : ByteArray := if f = 0 ∧ 0 ≤ n ∧ n ≤ (s.size : Int) then s.extract 0 n.toNat else ⟨#[]⟩
def tkS (s : ByteArray) (f n : Int) : ByteArray := if f = 0 ∧ 0 ≤ n ∧ n ≤ (s.size : Int) then s.extract n.toNat s.size else s
def tkF (s : ByteArray) (f n : Int) : Int := if f = 0 then (if n < 0 then 2 else if (s.size : Int) < n then 7 else 0) else f
def bn (s : ByteArray) : Nat → Int
 | 0 => 0
 | j + 1 => uo (sl (bn s j) 8) (cv .u64 (bt s j))
def bd (s : ByteArray) : Nat → Int
 | 0 => 0
 | j + 1 => ua (sl (bd s j) 8) (cv .u64 (bt s j))
def bnv (s : ByteArray) : Int := bn s s.size
def bdv (s : ByteArray) : Int := bd s s.size
theorem tkV_le (s : ByteArray) (f : Int) (k : Nat) : (tkV s f (k : Int)).size ≤ k := by
 unfold tkV
 split
 ·rw [ByteArray.size_extract]
  omega
 ·exact Nat.zero_le _
set_option maxRecDepth 100000 in
set_option maxHeartbeats 4000000 in
set_option linter.unusedSimpArgs false in
theorem c_New (s : ByteArray) (w : World) (hL : Laid w)  :
  Calls Try.prog 49 #[.string s] w fun r w' => ∃ g, r = .returned (.pointer (some ⟨g, 0, none⟩)) ∧ w.heap.size ≤ g ∧ w'.heap[g]? = some (.cells (av 3 (ls [.bool true, .string s, .int .i64 0])) 112) ∧ Below w.heap.size w w' := by
 go_enter Try.func49, Try.ntmps49
 have M := Mem.start hL
 refine sR ?_
 refine pV 2 (.pointer none) ?_
 refine nT ?_
 refine sR ?_
 refine pV 3 (.string s) ?_
 refine pV 4 (.agg (av 3 (ls [.bool true, .string s, .int .i64 0]))) ?_
 refine pN M 5 (.cells (av 3 (ls [.bool true, .string s, .int .i64 0])) 112) fun g1 u1 M => ?_
 replace M : Mem ⟨w, []⟩ [⟨g1, .cells (av 3 (ls [.bool true, .string s, .int .i64 0])) 112⟩] u1 := M
 refine pV 2 (.pointer (some ⟨g1, 0, none⟩)) ?_
 refine nT ?_
 refine wp_ret ?_
 exact bodyPost_ret (v := .pointer (some ⟨g1, 0, none⟩)) (results_tmp1 Try.results49 _ _ _ (by kernel_rfl)) (by kernel_rfl) ⟨g1, rfl, M.geAt 0 rfl, M.get 0 rfl, below_grown M.old⟩
set_option maxRecDepth 100000 in
set_option maxHeartbeats 4000000 in
set_option linter.unusedSimpArgs false in
theorem c_Left (g : Nat) (s : ByteArray) (f : Int) (w : World) (hL : Laid w)  (hg : w.heap[g]? = some (.cells (av 3 (ls [.bool true, .string s, .int .i64 f])) 112)) :
  Calls Try.prog 72 #[.pointer (some ⟨g, 0, none⟩)] w fun r w' => r = .returned (.int .i64 (s.size : Int)) ∧ Below w.heap.size w w' := by
 go_enter Try.func72, Try.ntmps72
 have M := Mem.startp hL hg
 refine sR ?_
 refine pV 2 (.int .i64 0) ?_
 refine nT ?_
 refine wp_seq ?_
 refine sR ?_
 refine pV 3 (.pointer (some ⟨g, 0, none⟩)) ?_
 refine pV 4 (.bool false) ?_
 refine nT ?_
 refine wp_cond_false (by kernel_rfl) ?_
 refine wp_skip ?_
 refine au_then ?_
 refine sR ?_
 refine pV 5 (.pointer (some ⟨g, 0, none⟩)) ?_
 refine pV 6 (.pointer (some ⟨g, 0, none⟩)) ?_
 refine pV 7 (.pointer (some ⟨g, 1, none⟩)) ?_
 refine pEz M 8 g 1 (.string s) (fun w M => M.cell 0 rfl (by decide) rfl) ?_
 refine pV 9 (.int .i64 (s.size : Int)) ?_
 refine pV 2 (.int .i64 (s.size : Int)) ?_
 refine nT ?_
 refine wp_ret ?_
 exact bodyPost_ret (v := .int .i64 (s.size : Int)) (results_tmp1 Try.results72 _ _ _ (by kernel_rfl)) (by kernel_rfl) ⟨rfl, ro_below1 M.old hg (M.get 0 rfl)⟩
set_option maxRecDepth 100000 in
set_option maxHeartbeats 4000000 in
set_option linter.unusedSimpArgs false in
theorem c_Fault (g : Nat) (s : ByteArray) (f : Int) (w : World) (hL : Laid w)  (hg : w.heap[g]? = some (.cells (av 3 (ls [.bool true, .string s, .int .i64 f])) 112)) :
  Calls Try.prog 73 #[.pointer (some ⟨g, 0, none⟩)] w fun r w' => r = .returned (.int .i64 f) ∧ Below w.heap.size w w' := by
 go_enter Try.func73, Try.ntmps73
 have M := Mem.startp hL hg
 refine sR ?_
 refine pV 2 (.int .i64 0) ?_
 refine nT ?_
 refine wp_seq ?_
 refine sR ?_
 refine pV 3 (.pointer (some ⟨g, 0, none⟩)) ?_
 refine pV 4 (.bool false) ?_
 refine pV 5 (.bool false) ?_
 refine pl_val (want_on 2 false rfl 5 rfl (by kernel_rfl)) (some 6) rfl (.pointer (some ⟨g, 0, none⟩)) (fun _ => by kernel_rfl) ?_
 refine pl_val (want_on 2 false rfl 5 rfl (by kernel_rfl)) (some 7) rfl (.pointer (some ⟨g, 0, none⟩)) (fun _ => by kernel_rfl) ?_
 refine pl_val (want_on 2 false rfl 5 rfl (by kernel_rfl)) (some 8) rfl (.pointer (some ⟨g, 0, none⟩)) (fun _ => by kernel_rfl) ?_
 refine pl_cell M (want_on 2 false rfl 5 rfl (by kernel_rfl)) (some 9) rfl 4 _ rfl g 0 (by kernel_rfl) (.bool true) (fun _ => by kernel_rfl) (fun w M => M.cell 0 rfl (by decide) rfl) ?_
 refine pl_val (want_on 2 false rfl 5 rfl (by kernel_rfl)) (some 10) rfl (.bool false) (fun _ => by kernel_rfl) ?_
 refine pV 11 (.bool false) ?_
 refine nT ?_
 refine wp_cond_false (by kernel_rfl) ?_
 refine wp_skip ?_
 refine au_then ?_
 refine sR ?_
 refine pV 12 (.pointer (some ⟨g, 0, none⟩)) ?_
 refine pV 13 (.pointer (some ⟨g, 0, none⟩)) ?_
 refine pV 14 (.pointer (some ⟨g, 2, none⟩)) ?_
 refine pEz M 15 g 2 (.int .i64 f) (fun w M => M.cell 0 rfl (by decide) rfl) ?_
 refine pV 2 (.int .i64 f) ?_
 refine nT ?_
 refine wp_ret ?_
 exact bodyPost_ret (v := .int .i64 f) (results_tmp1 Try.results73 _ _ _ (by kernel_rfl)) (by kernel_rfl) ⟨rfl, ro_below1 M.old hg (M.get 0 rfl)⟩
set_option maxRecDepth 100000 in
set_option maxHeartbeats 4000000 in
set_option linter.unusedSimpArgs false in
theorem c_faultyT (g : Nat) (s : ByteArray) (f : Int) (e : Int) (he : e ≠ 0) (w : World) (hL : Laid w)  (hg : w.heap[g]? = some (.cells (av 3 (ls [.bool true, .string s, .int .i64 f])) 112)) :
  Calls Try.prog 71 #[.pointer (some ⟨g, 0, none⟩), .bool true, .int .i64 e] w fun r w' => r = .returned (.bool true) ∧ Grw w w' [g] ∧ w'.heap[g]? = some (.cells (av 3 (ls [.bool true, .string s, .int .i64 (ff f e)])) 112) := by
 go_enter Try.func71, Try.ntmps71
 have M := Mem.startp hL hg
 refine sR ?_
 refine pV 6 (.bool false) ?_
 refine nT ?_
 refine wp_seq ?_
 refine sR ?_
 refine pV 7 (.bool true) ?_
 refine pV 8 (.bool true) ?_
 refine pl_val (want_on 1 true rfl 8 rfl (by kernel_rfl)) (some 9) rfl (.pointer (some ⟨g, 0, none⟩)) (fun _ => by kernel_rfl) ?_
 refine pl_call M (want_on 1 true rfl 8 rfl (by kernel_rfl)) (some 10) rfl 73 #[.pointer (some ⟨g, 0, none⟩)] (.int .i64 f) (fun _ => by kernel_rfl) (fun w M => c_Fault g s f w M.laid (M.get 0 rfl)) fun u1 M => ?_
 by_cases c0 : f = 0
 ·skip
  refine pl_val (want_on 1 true rfl 8 rfl (by kernel_rfl)) (some 11) rfl (.bool true) (fun w => Eq.trans (b := .ok (.value (.bool (decide (f = 0)))) w) (by kernel_rfl) (by rw [decide_eq_true (c0)])) ?_
  refine pV 12 (.bool true) ?_
  refine nT ?_
  refine wp_cond_true (by kernel_rfl) ?_
  refine rg_lit ?_
  refine pV 13 (.pointer (some ⟨g, 0, none⟩)) ?_
  refine pV 14 (.int .i64 e) ?_
  refine pV 15 (.pointer (some ⟨g, 0, none⟩)) ?_
  refine pV 16 (.pointer (some ⟨g, 2, none⟩)) ?_
  refine pP M 0 rfl 2 (.int .i64 e) (ls [.bool true, .string s, .int .i64 e]) (by decide) (put_ls _ 2 _ _ rfl) fun u2 M => ?_
  replace M : Mem ⟨w, [g]⟩ [⟨g, .cells (av 3 (ls [.bool true, .string s, .int .i64 e])) 112⟩] u2 := M
  refine nT ?_
  refine sR ?_
  refine pV 17 (.pointer (some ⟨g, 0, none⟩)) ?_
  refine pC M 18 73 #[.pointer (some ⟨g, 0, none⟩)] (.int .i64 e) (fun w M => c_Fault g s e w M.laid (M.get 0 rfl)) fun u3 M => ?_
  by_cases c1 : e = 0
  ·exact absurd c1 he
  ·skip
   refine pH 19 (.bool true) (nU (e = 0) (c1)) ?_
   refine pV 6 (.bool true) ?_
   refine nT ?_
   refine wp_ret ?_
   have e0 : (ff f e) = e := by first | (simp only [ff, if_pos c0, if_neg c1]; done) | simp [ff, c0, c1]
   exact bodyPost_ret (v := .bool true) (results_tmp1 Try.results71 _ _ _ (by kernel_rfl)) (by kernel_rfl) ⟨rfl, M.old, by simpa only [e0] using M.get 0 rfl⟩
 ·skip
  refine pl_val (want_on 1 true rfl 8 rfl (by kernel_rfl)) (some 11) rfl (.bool false) (fun w => Eq.trans (b := .ok (.value (.bool (decide (f = 0)))) w) (by kernel_rfl) (by rw [decide_eq_false (c0)])) ?_
  refine pV 12 (.bool false) ?_
  refine nT ?_
  refine wp_cond_false (by kernel_rfl) ?_
  refine wp_skip ?_
  refine au_then ?_
  refine sR ?_
  refine pV 17 (.pointer (some ⟨g, 0, none⟩)) ?_
  refine pC M 18 73 #[.pointer (some ⟨g, 0, none⟩)] (.int .i64 f) (fun w M => c_Fault g s f w M.laid (M.get 0 rfl)) fun u2 M => ?_
  refine pH 19 (.bool true) (nU (f = 0) (c0)) ?_
  refine pV 6 (.bool true) ?_
  refine nT ?_
  refine wp_ret ?_
  have e0 : (ff f e) = f := by first | (simp only [ff, if_neg c0]; done) | simp [ff, c0]
  exact bodyPost_ret (v := .bool true) (results_tmp1 Try.results71 _ _ _ (by kernel_rfl)) (by kernel_rfl) ⟨rfl, M.old, by simpa only [e0] using M.get 0 rfl⟩
set_option maxRecDepth 100000 in
set_option maxHeartbeats 4000000 in
set_option linter.unusedSimpArgs false in
theorem c_faultyF (g : Nat) (s : ByteArray) (f : Int) (e : Int) (w : World) (hL : Laid w)  (hg : w.heap[g]? = some (.cells (av 3 (ls [.bool true, .string s, .int .i64 f])) 112)) :
  Calls Try.prog 71 #[.pointer (some ⟨g, 0, none⟩), .bool false, .int .i64 e] w fun r w' => r = .returned (.bool (decide (f ≠ 0))) ∧ Grw w w' [g] ∧ w'.heap[g]? = some (.cells (av 3 (ls [.bool true, .string s, .int .i64 f])) 112) := by
 go_enter Try.func71, Try.ntmps71
 have M := Mem.startp hL hg
 refine sR ?_
 refine pV 6 (.bool false) ?_
 refine nT ?_
 refine wp_seq ?_
 refine sR ?_
 refine pV 7 (.bool false) ?_
 refine pV 8 (.bool false) ?_
 refine pl_skip (want_off 1 true rfl 8 rfl (by kernel_rfl)) (some 9) rfl ?_
 refine pl_skip (want_off 1 true rfl 8 rfl (by kernel_rfl)) (some 10) rfl ?_
 refine pl_skip (want_off 1 true rfl 8 rfl (by kernel_rfl)) (some 11) rfl ?_
 refine pV 12 (.bool false) ?_
 refine nT ?_
 refine wp_cond_false (by kernel_rfl) ?_
 refine wp_skip ?_
 refine au_then ?_
 refine sR ?_
 refine pV 17 (.pointer (some ⟨g, 0, none⟩)) ?_
 refine pC M 18 73 #[.pointer (some ⟨g, 0, none⟩)] (.int .i64 f) (fun w M => c_Fault g s f w M.laid (M.get 0 rfl)) fun u1 M => ?_
 by_cases c0 : f = 0
 ·skip
  refine pH 19 (.bool false) (nF (f = 0) (c0)) ?_
  refine pV 6 (.bool false) ?_
  refine nT ?_
  refine wp_ret ?_
  have e0 : decide (f ≠ 0) = false := by first | (simp only [if_pos c0]; done) | simp [c0]
  exact bodyPost_ret (v := .bool false) (results_tmp1 Try.results71 _ _ _ (by kernel_rfl)) (by kernel_rfl) ⟨by rw [e0], M.old, by simpa only [e0] using M.get 0 rfl⟩
 ·skip
  refine pH 19 (.bool true) (nU (f = 0) (c0)) ?_
  refine pV 6 (.bool true) ?_
  refine nT ?_
  refine wp_ret ?_
  have e0 : decide (f ≠ 0) = true := by first | (simp only [if_neg c0]; done) | simp [c0]
  exact bodyPost_ret (v := .bool true) (results_tmp1 Try.results71 _ _ _ (by kernel_rfl)) (by kernel_rfl) ⟨by rw [e0], M.old, by simpa only [e0] using M.get 0 rfl⟩
set_option maxRecDepth 100000 in
set_option maxHeartbeats 4000000 in
set_option linter.unusedSimpArgs false in
theorem c_Take (g : Nat) (s : ByteArray) (f : Int) (n : Int) (w : World) (hL : Laid w)  (hg : w.heap[g]? = some (.cells (av 3 (ls [.bool true, .string s, .int .i64 f])) 112)) :
  Calls Try.prog 57 #[.pointer (some ⟨g, 0, none⟩), .int .i64 n] w fun r w' => r = .returned (.string (tkV s f n)) ∧ Grw w w' [g] ∧ w'.heap[g]? = some (.cells (av 3 (ls [.bool true, .string (tkS s f n), .int .i64 (tkF s f n)])) 112) := by
 go_enter Try.func57, Try.ntmps57
 have M := Mem.startp hL hg
 refine sR ?_
 refine pV 4 (.string ⟨#[]⟩) ?_
 refine nT ?_
 refine wp_seq ?_
 refine sR ?_
 refine pV 6 (.pointer (some ⟨g, 0, none⟩)) ?_
 refine pV 7 (.int .i64 n) ?_
 by_cases c0 : n < 0
 ·skip
  refine pH 8 (.bool true) (dTz (n < 0) (c0)) ?_
  refine pl_callp M (want_no rfl) (some 9) rfl 71 #[.pointer (some ⟨g, 0, none⟩), .bool true, .int .i64 2] (.bool true) 0 g (.cells (av 3 (ls [.bool true, .string s, .int .i64 f])) 112) (.cells (av 3 (ls [.bool true, .string s, .int .i64 (ff f 2)])) 112) rfl (fun _ => by kernel_rfl) (fun w M => c_faultyT g s f 2 (by decide) w M.laid (M.get 0 rfl)) fun u1 M => ?_
  replace M : Mem ⟨w, [g]⟩ [⟨g, .cells (av 3 (ls [.bool true, .string s, .int .i64 (ff f 2)])) 112⟩] u1 := M
  refine pV 10 (.bool true) ?_
  refine pl_skip (want_off 4 false rfl 10 rfl (by kernel_rfl)) (some 11) rfl ?_
  refine pl_skip (want_off 4 false rfl 10 rfl (by kernel_rfl)) (some 12) rfl ?_
  refine pl_skip (want_off 4 false rfl 10 rfl (by kernel_rfl)) (some 13) rfl ?_
  refine pl_skip (want_off 4 false rfl 10 rfl (by kernel_rfl)) (some 14) rfl ?_
  refine pl_skip (want_off 4 false rfl 10 rfl (by kernel_rfl)) (some 15) rfl ?_
  refine pl_skip (want_off 4 false rfl 10 rfl (by kernel_rfl)) (some 16) rfl ?_
  refine pV 17 (.bool true) ?_
  refine nT ?_
  refine wp_cond_true (by kernel_rfl) ?_
  refine sR ?_
  refine pV 4 (.string ⟨#[]⟩) ?_
  refine nT ?_
  refine wp_ret ?_
  refine au_then_ret ?_
  have e0 : (tkV s f n) = ⟨#[]⟩ := by simp [tkV, tkS, tkF, ff, c0] <;> (intros; omega)
  have e1 : (tkS s f n) = s := by simp [tkV, tkS, tkF, ff, c0] <;> (intros; omega)
  have e2 : (tkF s f n) = (ff f 2) := by simp [tkV, tkS, tkF, ff, c0] <;> (intros; omega)
  exact bodyPost_ret (v := .string ⟨#[]⟩) (results_tmp1 Try.results57 _ _ _ (by kernel_rfl)) (by kernel_rfl) ⟨by rw [e0], M.old, by simpa only [e0, e1, e2] using M.get 0 rfl⟩
 ·skip
  refine pH 8 (.bool false) (dF (n < 0) (c0)) ?_
  by_cases c1 : f = 0
  ·skip
   refine pl_callp M (want_no rfl) (some 9) rfl 71 #[.pointer (some ⟨g, 0, none⟩), .bool false, .int .i64 2] (.bool false) 0 g (.cells (av 3 (ls [.bool true, .string s, .int .i64 f])) 112) (.cells (av 3 (ls [.bool true, .string s, .int .i64 f])) 112) rfl (fun _ => by kernel_rfl) (fun w M => call_val (c_faultyF g s f 2 w M.laid (M.get 0 rfl)) (congrArg Value.bool (decide_eq_false (not_not_intro c1)))) fun u1 M => ?_
   replace M : Mem ⟨w, [g]⟩ [⟨g, .cells (av 3 (ls [.bool true, .string s, .int .i64 f])) 112⟩] u1 := M
   refine pV 10 (.bool false) ?_
   refine pl_val (want_on 4 false rfl 10 rfl (by kernel_rfl)) (some 11) rfl (.pointer (some ⟨g, 0, none⟩)) (fun _ => by kernel_rfl) ?_
   refine pl_val (want_on 4 false rfl 10 rfl (by kernel_rfl)) (some 12) rfl (.int .i64 n) (fun _ => by kernel_rfl) ?_
   refine pl_val (want_on 4 false rfl 10 rfl (by kernel_rfl)) (some 13) rfl (.pointer (some ⟨g, 0, none⟩)) (fun _ => by kernel_rfl) ?_
   refine pl_call M (want_on 4 false rfl 10 rfl (by kernel_rfl)) (some 14) rfl 72 #[.pointer (some ⟨g, 0, none⟩)] (.int .i64 (s.size : Int)) (fun _ => by kernel_rfl) (fun w M => c_Left g s f w M.laid (M.get 0 rfl)) fun u2 M => ?_
   by_cases c2 : (s.size : Int) < n
   ·skip
    refine pl_val (want_on 4 false rfl 10 rfl (by kernel_rfl)) (some 15) rfl (.bool true) (fun w => Eq.trans (b := .ok (.value (.bool (decide ((s.size : Int) < n)))) w) (by kernel_rfl) (by rw [decide_eq_true (c2)])) ?_
    refine pl_callp M (want_on 4 false rfl 10 rfl (by kernel_rfl)) (some 16) rfl 71 #[.pointer (some ⟨g, 0, none⟩), .bool true, .int .i64 7] (.bool true) 0 g (.cells (av 3 (ls [.bool true, .string s, .int .i64 f])) 112) (.cells (av 3 (ls [.bool true, .string s, .int .i64 (ff f 7)])) 112) rfl (fun _ => by kernel_rfl) (fun w M => c_faultyT g s f 7 (by decide) w M.laid (M.get 0 rfl)) fun u3 M => ?_
    replace M : Mem ⟨w, [g]⟩ [⟨g, .cells (av 3 (ls [.bool true, .string s, .int .i64 (ff f 7)])) 112⟩] u3 := M
    refine pV 17 (.bool true) ?_
    refine nT ?_
    refine wp_cond_true (by kernel_rfl) ?_
    refine sR ?_
    refine pV 4 (.string ⟨#[]⟩) ?_
    refine nT ?_
    refine wp_ret ?_
    refine au_then_ret ?_
    have e0 : (tkV s f n) = ⟨#[]⟩ := by simp [tkV, tkS, tkF, ff, c0, c1, c2] <;> (intros; omega)
    have e1 : (tkS s f n) = s := by simp [tkV, tkS, tkF, ff, c0, c1, c2] <;> (intros; omega)
    have e2 : (tkF s f n) = (ff f 7) := by simp [tkV, tkS, tkF, ff, c0, c1, c2] <;> (intros; omega)
    exact bodyPost_ret (v := .string ⟨#[]⟩) (results_tmp1 Try.results57 _ _ _ (by kernel_rfl)) (by kernel_rfl) ⟨by rw [e0], M.old, by simpa only [e0, e1, e2] using M.get 0 rfl⟩
   ·skip
    refine pl_val (want_on 4 false rfl 10 rfl (by kernel_rfl)) (some 15) rfl (.bool false) (fun w => Eq.trans (b := .ok (.value (.bool (decide ((s.size : Int) < n)))) w) (by kernel_rfl) (by rw [decide_eq_false (c2)])) ?_
    refine pl_callp M (want_on 4 false rfl 10 rfl (by kernel_rfl)) (some 16) rfl 71 #[.pointer (some ⟨g, 0, none⟩), .bool false, .int .i64 7] (.bool false) 0 g (.cells (av 3 (ls [.bool true, .string s, .int .i64 f])) 112) (.cells (av 3 (ls [.bool true, .string s, .int .i64 f])) 112) rfl (fun _ => by kernel_rfl) (fun w M => call_val (c_faultyF g s f 7 w M.laid (M.get 0 rfl)) (congrArg Value.bool (decide_eq_false (not_not_intro c1)))) fun u3 M => ?_
    replace M : Mem ⟨w, [g]⟩ [⟨g, .cells (av 3 (ls [.bool true, .string s, .int .i64 f])) 112⟩] u3 := M
    refine pV 17 (.bool false) ?_
    refine nT ?_
    refine wp_cond_false (by kernel_rfl) ?_
    refine wp_skip ?_
    refine au_then ?_
    refine sR ?_
    refine pV 18 (.pointer (some ⟨g, 0, none⟩)) ?_
    refine pV 19 (.pointer (some ⟨g, 0, none⟩)) ?_
    refine pV 20 (.pointer (some ⟨g, 1, none⟩)) ?_
    refine pEz M 21 g 1 (.string s) (fun w M => M.cell 0 rfl (by decide) rfl) ?_
    refine pV 22 (.int .i64 n) ?_
    refine pH 23 (.string (s.extract 0 n.toNat)) (run_strh 9 Try.underlying9 _ _ rfl s (by kernel_rfl) .i64 n.toNat (nat_of (k := .i64) (by kernel_rfl) (by omega)) (by omega) _ rfl) ?_
    refine pV 5 (.string (s.extract 0 n.toNat)) ?_
    refine nT ?_
    refine sR ?_
    refine pV 24 (.pointer (some ⟨g, 0, none⟩)) ?_
    refine pV 25 (.pointer (some ⟨g, 0, none⟩)) ?_
    refine pV 26 (.pointer (some ⟨g, 0, none⟩)) ?_
    refine pV 27 (.pointer (some ⟨g, 1, none⟩)) ?_
    refine pEz M 28 g 1 (.string s) (fun w M => M.cell 0 rfl (by decide) rfl) ?_
    refine pV 29 (.int .i64 n) ?_
    refine pH 30 (.string (s.extract n.toNat s.size)) (run_strl 9 Try.underlying9 _ _ rfl s (by kernel_rfl) .i64 n.toNat (nat_of (k := .i64) (by kernel_rfl) (by omega)) (by omega) _ rfl) ?_
    refine pV 31 (.pointer (some ⟨g, 0, none⟩)) ?_
    refine pV 32 (.pointer (some ⟨g, 1, none⟩)) ?_
    refine pP M 0 rfl 1 (.string (s.extract n.toNat s.size)) (ls [.bool true, .string (s.extract n.toNat s.size), .int .i64 f]) (by decide) (put_ls _ 1 _ _ rfl) fun u4 M => ?_
    replace M : Mem ⟨w, [g]⟩ [⟨g, .cells (av 3 (ls [.bool true, .string (s.extract n.toNat s.size), .int .i64 f])) 112⟩] u4 := M
    refine nT ?_
    refine sR ?_
    refine pV 33 (.string (s.extract 0 n.toNat)) ?_
    refine pV 4 (.string (s.extract 0 n.toNat)) ?_
    refine nT ?_
    refine wp_ret ?_
    have e0 : (tkV s f n) = (s.extract 0 n.toNat) := by simp [tkV, tkS, tkF, ff, c0, c1, c2] <;> (intros; omega)
    have e1 : (tkS s f n) = (s.extract n.toNat s.size) := by simp [tkV, tkS, tkF, ff, c0, c1, c2] <;> (intros; omega)
    have e2 : (tkF s f n) = f := by simp [tkV, tkS, tkF, ff, c0, c1, c2] <;> (intros; omega)
    exact bodyPost_ret (v := .string (s.extract 0 n.toNat)) (results_tmp1 Try.results57 _ _ _ (by kernel_rfl)) (by kernel_rfl) ⟨by rw [e0], M.old, by simpa only [e0, e1, e2] using M.get 0 rfl⟩
  ·skip
   refine pl_callp M (want_no rfl) (some 9) rfl 71 #[.pointer (some ⟨g, 0, none⟩), .bool false, .int .i64 2] (.bool true) 0 g (.cells (av 3 (ls [.bool true, .string s, .int .i64 f])) 112) (.cells (av 3 (ls [.bool true, .string s, .int .i64 f])) 112) rfl (fun _ => by kernel_rfl) (fun w M => call_val (c_faultyF g s f 2 w M.laid (M.get 0 rfl)) (congrArg Value.bool (decide_eq_true (c1)))) fun u1 M => ?_
   replace M : Mem ⟨w, [g]⟩ [⟨g, .cells (av 3 (ls [.bool true, .string s, .int .i64 f])) 112⟩] u1 := M
   refine pV 10 (.bool true) ?_
   refine pl_skip (want_off 4 false rfl 10 rfl (by kernel_rfl)) (some 11) rfl ?_
   refine pl_skip (want_off 4 false rfl 10 rfl (by kernel_rfl)) (some 12) rfl ?_
   refine pl_skip (want_off 4 false rfl 10 rfl (by kernel_rfl)) (some 13) rfl ?_
   refine pl_skip (want_off 4 false rfl 10 rfl (by kernel_rfl)) (some 14) rfl ?_
   refine pl_skip (want_off 4 false rfl 10 rfl (by kernel_rfl)) (some 15) rfl ?_
   refine pl_skip (want_off 4 false rfl 10 rfl (by kernel_rfl)) (some 16) rfl ?_
   refine pV 17 (.bool true) ?_
   refine nT ?_
   refine wp_cond_true (by kernel_rfl) ?_
   refine sR ?_
   refine pV 4 (.string ⟨#[]⟩) ?_
   refine nT ?_
   refine wp_ret ?_
   refine au_then_ret ?_
   have e0 : (tkV s f n) = ⟨#[]⟩ := by simp [tkV, tkS, tkF, ff, c0, c1] <;> (intros; omega)
   have e1 : (tkS s f n) = s := by simp [tkV, tkS, tkF, ff, c0, c1] <;> (intros; omega)
   have e2 : (tkF s f n) = f := by simp [tkV, tkS, tkF, ff, c0, c1] <;> (intros; omega)
   exact bodyPost_ret (v := .string ⟨#[]⟩) (results_tmp1 Try.results57 _ _ _ (by kernel_rfl)) (by kernel_rfl) ⟨by rw [e0], M.old, by simpa only [e0, e1, e2] using M.get 0 rfl⟩
set_option maxRecDepth 100000 in
set_option maxHeartbeats 4000000 in
set_option linter.unusedSimpArgs false in
theorem c_next1 (g : Nat) (s : ByteArray) (f : Int) (w : World) (hL : Laid w)  (hg : w.heap[g]? = some (.cells (av 3 (ls [.bool true, .string s, .int .i64 f])) 112)) :
  Calls Try.prog 67 #[.pointer (some ⟨g, 0, none⟩)] w fun r w' => r = .returned (.int .u8 (cv .u8 (bnv (tkV s f 1)))) ∧ Grw w w' [g] ∧ w'.heap[g]? = some (.cells (av 3 (ls [.bool true, .string (tkS s f 1), .int .i64 (tkF s f 1)])) 112) := by
 go_enter Try.func67, Try.ntmps67
 have M := Mem.startp hL hg
 have hz : (tkV s f 1).size ≤ 1 := tkV_le s f 1
 refine sR ?_
 refine pV 2 (.int .u8 0) ?_
 refine nT ?_
 refine sR ?_
 refine pV 3 (.int .u64 0) ?_
 refine nT ?_
 refine wp_seq ?_
 refine sR ?_
 refine pV 6 (.pointer (some ⟨g, 0, none⟩)) ?_
 refine pC M 7 80 #[] (.int .i64 1) (fun w M => c_size1 w M.laid) fun u1 M => ?_
 refine pl_callp M (want_no rfl) (some 8) rfl 57 #[.pointer (some ⟨g, 0, none⟩), .int .i64 1] (.string (tkV s f 1)) 0 g (.cells (av 3 (ls [.bool true, .string s, .int .i64 f])) 112) (.cells (av 3 (ls [.bool true, .string (tkS s f 1), .int .i64 (tkF s f 1)])) 112) rfl (fun _ => by kernel_rfl) (fun w M => c_Take g s f 1 w M.laid (M.get 0 rfl)) fun u2 M => ?_
 replace M : Mem ⟨w, [g]⟩ [⟨g, .cells (av 3 (ls [.bool true, .string (tkS s f 1), .int .i64 (tkF s f 1)])) 112⟩] u2 := M
 refine pl_conv M (want_no rfl) (some 9) rfl _ rfl (tkV s f 1) (by kernel_rfl) ?_
 intro g1 cap1 Z1 u3 hZ1 M
 replace M : Mem ⟨w, [g]⟩ [⟨g, .cells (av 3 (ls [.bool true, .string (tkS s f 1), .int .i64 (tkF s f 1)])) 112⟩, ⟨g1, Z1⟩] u3 := M
 refine pV 10 (.int .i64 (((tkV s f 1).size : Nat) : Int)) ?_
 refine pV 11 (.int .i64 0) ?_
 refine nT ?_
 refine wp_block ?_
 refine au_loop (fun j a w' => ∃ v1 : Nat → Value, a = ⟨#[.pointer (some ⟨g, 0, none⟩), undef, .int .u8 0, .int .u64 (bn (tkV s f 1) j), undef, v1 5, .pointer (some ⟨g, 0, none⟩), .int .i64 1, .string (tkV s f 1), .slice (some ⟨g1, 0, none⟩) (tkV s f 1).size cap1, .int .i64 (((tkV s f 1).size : Nat) : Int), .int .i64 (j : Int), v1 12, v1 13, v1 14, v1 15, v1 16, v1 17, v1 18, v1 19, v1 20, undef, undef], []⟩ ∧ Mem ⟨w, [g]⟩ [⟨g, .cells (av 3 (ls [.bool true, .string (tkS s f 1), .int .i64 (tkF s f 1)])) 112⟩, ⟨g1, Z1⟩] w') (tkV s f 1).size ⟨fun k_ => ([undef, undef, undef, undef, undef, undef, undef, undef, undef, undef, undef, undef, undef, undef, undef, undef] : List Value).getD (k_ - 5) undef, by kernel_rfl, M⟩ ?_ ?_
 ·intro j a u0 hj hI
  obtain ⟨v1, rfl, M⟩ := hI
  refine sR ?_
  refine pH 12 (.bool true) (dTz ((j : Int) < (((tkV s f 1).size : Nat) : Int)) (by omega)) ?_
  refine nT ?_
  refine wp_seq ?_
  refine wp_cond_true (by kernel_rfl) ?_
  refine wp_skip ?_
  refine au_then ?_
  refine wp_seq ?_
  refine wp_block ?_
  refine sR ?_
  refine pH 13 (.pointer (some ⟨g1, j, none⟩)) (run_ix0 49 5 Try.underlying49 inz5 _ _ rfl g1 ((tkV s f 1).size) cap1 (by kernel_rfl) .i64 j (by kernel_rfl) (by omega)) ?_
  refine pEz M 14 g1 j (.int .u8 (bt (tkV s f 1) j)) (fun w M => hZ1.cell (M.get 1 rfl) (vs8_sb _ _ (by omega))) ?_
  refine pV 5 (.int .u8 (bt (tkV s f 1) j)) ?_
  refine nT ?_
  refine rg_lit ?_
  refine pV 15 (.int .u64 (bn (tkV s f 1) j)) ?_
  refine pV 16 (.int .u64 (sl (bn (tkV s f 1) j) 8)) ?_
  refine pV 17 (.int .u8 (bt (tkV s f 1) j)) ?_
  refine pV 18 (.int .u64 (cv .u64 (bt (tkV s f 1) j))) ?_
  refine pV 19 (.int .u64 (uo (sl (bn (tkV s f 1) j) 8) (cv .u64 (bt (tkV s f 1) j)))) ?_
  refine pV 3 (.int .u64 (uo (sl (bn (tkV s f 1) j) 8) (cv .u64 (bt (tkV s f 1) j)))) ?_
  refine pl_nil ?_
  refine au_block ?_
  refine au_then ?_
  refine rg_lit ?_
  refine pH 20 (.int .i64 ((j + 1 : Nat) : Int)) (iV ((j : Int) + 1) (by omega) (by omega) (by omega)) ?_
  refine pV 11 (.int .i64 ((j + 1 : Nat) : Int)) ?_
  refine nT ?_
  exact ⟨fun k_ => ([.int .u8 (bt (tkV s f 1) j), undef, undef, undef, undef, undef, undef, .bool true, .pointer (some ⟨g1, j, none⟩), .int .u8 (bt (tkV s f 1) j), .int .u64 (bn (tkV s f 1) j), .int .u64 (sl (bn (tkV s f 1) j) 8), .int .u8 (bt (tkV s f 1) j), .int .u64 (cv .u64 (bt (tkV s f 1) j)), .int .u64 (uo (sl (bn (tkV s f 1) j) 8) (cv .u64 (bt (tkV s f 1) j))), .int .i64 ((j + 1 : Nat) : Int)] : List Value).getD (k_ - 5) undef, by kernel_rfl, M⟩
 ·intro a u0 hI
  obtain ⟨v1, rfl, M⟩ := hI
  refine sR ?_
  refine pH 12 (.bool false) (dF ((((tkV s f 1).size : Nat) : Int) < (((tkV s f 1).size : Nat) : Int)) (by omega)) ?_
  refine nT ?_
  refine wp_seq ?_
  refine wp_cond_false (by kernel_rfl) ?_
  refine wp_exit ?_
  refine au_then_exit ?_
  refine au_then_exit ?_
  refine au_block_exit ?_
  refine au_then ?_
  refine sR ?_
  refine pV 21 (.int .u64 (bn (tkV s f 1) ((tkV s f 1).size))) ?_
  refine pV 22 (.int .u8 (cv .u8 (bn (tkV s f 1) ((tkV s f 1).size)))) ?_
  refine pV 2 (.int .u8 (cv .u8 (bn (tkV s f 1) ((tkV s f 1).size)))) ?_
  refine nT ?_
  refine wp_ret ?_
  have e0 : (cv .u8 (bnv (tkV s f 1))) = (cv .u8 (bn (tkV s f 1) ((tkV s f 1).size))) := rfl
  exact bodyPost_ret (v := .int .u8 (cv .u8 (bn (tkV s f 1) ((tkV s f 1).size)))) (results_tmp1 Try.results67 _ _ _ (by kernel_rfl)) (by kernel_rfl) ⟨by rw [e0], M.old, by simpa only [e0] using M.get 0 rfl⟩
set_option maxRecDepth 100000 in
set_option maxHeartbeats 4000000 in
set_option linter.unusedSimpArgs false in
theorem r_U8 (g : Nat) (s : ByteArray) (f : Int) (w : World) (hL : Laid w)  (hg : w.heap[g]? = some (.cells (av 3 (ls [.bool true, .string s, .int .i64 f])) 112)) :
  Calls Try.prog 50 #[.pointer (some ⟨g, 0, none⟩)] w fun r w' => r = .returned (.int .u8 (cv .u8 (bnv (tkV s f 1)))) ∧ Grw w w' [g] ∧ w'.heap[g]? = some (.cells (av 3 (ls [.bool true, .string (tkS s f 1), .int .i64 (tkF s f 1)])) 112) := by
 go_enter Try.func50, Try.ntmps50
 have M := Mem.startp hL hg
 refine sR ?_
 refine pV 2 (.int .u8 0) ?_
 refine nT ?_
 refine sR ?_
 refine pV 3 (.pointer (some ⟨g, 0, none⟩)) ?_
 refine pl_callp M (want_no rfl) (some 4) rfl 67 #[.pointer (some ⟨g, 0, none⟩)] (.int .u8 (cv .u8 (bnv (tkV s f 1)))) 0 g (.cells (av 3 (ls [.bool true, .string s, .int .i64 f])) 112) (.cells (av 3 (ls [.bool true, .string (tkS s f 1), .int .i64 (tkF s f 1)])) 112) rfl (fun _ => by kernel_rfl) (fun w M => c_next1 g s f w M.laid (M.get 0 rfl)) fun u1 M => ?_
 replace M : Mem ⟨w, [g]⟩ [⟨g, .cells (av 3 (ls [.bool true, .string (tkS s f 1), .int .i64 (tkF s f 1)])) 112⟩] u1 := M
 refine pV 2 (.int .u8 (cv .u8 (bnv (tkV s f 1)))) ?_
 refine nT ?_
 refine wp_ret ?_
 exact bodyPost_ret (v := .int .u8 (cv .u8 (bnv (tkV s f 1)))) (results_tmp1 Try.results50 _ _ _ (by kernel_rfl)) (by kernel_rfl) ⟨rfl, M.old, M.get 0 rfl⟩
set_option maxRecDepth 100000 in
set_option maxHeartbeats 4000000 in
set_option linter.unusedSimpArgs false in
theorem c_next2 (g : Nat) (s : ByteArray) (f : Int) (w : World) (hL : Laid w)  (hg : w.heap[g]? = some (.cells (av 3 (ls [.bool true, .string s, .int .i64 f])) 112)) :
  Calls Try.prog 70 #[.pointer (some ⟨g, 0, none⟩)] w fun r w' => r = .returned (.int .u16 (cv .u16 (bnv (tkV s f 2)))) ∧ Grw w w' [g] ∧ w'.heap[g]? = some (.cells (av 3 (ls [.bool true, .string (tkS s f 2), .int .i64 (tkF s f 2)])) 112) := by
 go_enter Try.func70, Try.ntmps70
 have M := Mem.startp hL hg
 have hz : (tkV s f 2).size ≤ 2 := tkV_le s f 2
 refine sR ?_
 refine pV 2 (.int .u16 0) ?_
 refine nT ?_
 refine sR ?_
 refine pV 3 (.int .u64 0) ?_
 refine nT ?_
 refine wp_seq ?_
 refine sR ?_
 refine pV 6 (.pointer (some ⟨g, 0, none⟩)) ?_
 refine pC M 7 83 #[] (.int .i64 2) (fun w M => c_size2 w M.laid) fun u1 M => ?_
 refine pl_callp M (want_no rfl) (some 8) rfl 57 #[.pointer (some ⟨g, 0, none⟩), .int .i64 2] (.string (tkV s f 2)) 0 g (.cells (av 3 (ls [.bool true, .string s, .int .i64 f])) 112) (.cells (av 3 (ls [.bool true, .string (tkS s f 2), .int .i64 (tkF s f 2)])) 112) rfl (fun _ => by kernel_rfl) (fun w M => c_Take g s f 2 w M.laid (M.get 0 rfl)) fun u2 M => ?_
 replace M : Mem ⟨w, [g]⟩ [⟨g, .cells (av 3 (ls [.bool true, .string (tkS s f 2), .int .i64 (tkF s f 2)])) 112⟩] u2 := M
 refine pl_conv M (want_no rfl) (some 9) rfl _ rfl (tkV s f 2) (by kernel_rfl) ?_
 intro g1 cap1 Z1 u3 hZ1 M
 replace M : Mem ⟨w, [g]⟩ [⟨g, .cells (av 3 (ls [.bool true, .string (tkS s f 2), .int .i64 (tkF s f 2)])) 112⟩, ⟨g1, Z1⟩] u3 := M
 refine pV 10 (.int .i64 (((tkV s f 2).size : Nat) : Int)) ?_
 refine pV 11 (.int .i64 0) ?_
 refine nT ?_
 refine wp_block ?_
 refine au_loop (fun j a w' => ∃ v1 : Nat → Value, a = ⟨#[.pointer (some ⟨g, 0, none⟩), undef, .int .u16 0, .int .u64 (bn (tkV s f 2) j), undef, v1 5, .pointer (some ⟨g, 0, none⟩), .int .i64 2, .string (tkV s f 2), .slice (some ⟨g1, 0, none⟩) (tkV s f 2).size cap1, .int .i64 (((tkV s f 2).size : Nat) : Int), .int .i64 (j : Int), v1 12, v1 13, v1 14, v1 15, v1 16, v1 17, v1 18, v1 19, v1 20, undef, undef], []⟩ ∧ Mem ⟨w, [g]⟩ [⟨g, .cells (av 3 (ls [.bool true, .string (tkS s f 2), .int .i64 (tkF s f 2)])) 112⟩, ⟨g1, Z1⟩] w') (tkV s f 2).size ⟨fun k_ => ([undef, undef, undef, undef, undef, undef, undef, undef, undef, undef, undef, undef, undef, undef, undef, undef] : List Value).getD (k_ - 5) undef, by kernel_rfl, M⟩ ?_ ?_
 ·intro j a u0 hj hI
  obtain ⟨v1, rfl, M⟩ := hI
  refine sR ?_
  refine pH 12 (.bool true) (dTz ((j : Int) < (((tkV s f 2).size : Nat) : Int)) (by omega)) ?_
  refine nT ?_
  refine wp_seq ?_
  refine wp_cond_true (by kernel_rfl) ?_
  refine wp_skip ?_
  refine au_then ?_
  refine wp_seq ?_
  refine wp_block ?_
  refine sR ?_
  refine pH 13 (.pointer (some ⟨g1, j, none⟩)) (run_ix0 49 5 Try.underlying49 inz5 _ _ rfl g1 ((tkV s f 2).size) cap1 (by kernel_rfl) .i64 j (by kernel_rfl) (by omega)) ?_
  refine pEz M 14 g1 j (.int .u8 (bt (tkV s f 2) j)) (fun w M => hZ1.cell (M.get 1 rfl) (vs8_sb _ _ (by omega))) ?_
  refine pV 5 (.int .u8 (bt (tkV s f 2) j)) ?_
  refine nT ?_
  refine rg_lit ?_
  refine pV 15 (.int .u64 (bn (tkV s f 2) j)) ?_
  refine pV 16 (.int .u64 (sl (bn (tkV s f 2) j) 8)) ?_
  refine pV 17 (.int .u8 (bt (tkV s f 2) j)) ?_
  refine pV 18 (.int .u64 (cv .u64 (bt (tkV s f 2) j))) ?_
  refine pV 19 (.int .u64 (uo (sl (bn (tkV s f 2) j) 8) (cv .u64 (bt (tkV s f 2) j)))) ?_
  refine pV 3 (.int .u64 (uo (sl (bn (tkV s f 2) j) 8) (cv .u64 (bt (tkV s f 2) j)))) ?_
  refine pl_nil ?_
  refine au_block ?_
  refine au_then ?_
  refine rg_lit ?_
  refine pH 20 (.int .i64 ((j + 1 : Nat) : Int)) (iV ((j : Int) + 1) (by omega) (by omega) (by omega)) ?_
  refine pV 11 (.int .i64 ((j + 1 : Nat) : Int)) ?_
  refine nT ?_
  exact ⟨fun k_ => ([.int .u8 (bt (tkV s f 2) j), undef, undef, undef, undef, undef, undef, .bool true, .pointer (some ⟨g1, j, none⟩), .int .u8 (bt (tkV s f 2) j), .int .u64 (bn (tkV s f 2) j), .int .u64 (sl (bn (tkV s f 2) j) 8), .int .u8 (bt (tkV s f 2) j), .int .u64 (cv .u64 (bt (tkV s f 2) j)), .int .u64 (uo (sl (bn (tkV s f 2) j) 8) (cv .u64 (bt (tkV s f 2) j))), .int .i64 ((j + 1 : Nat) : Int)] : List Value).getD (k_ - 5) undef, by kernel_rfl, M⟩
 ·intro a u0 hI
  obtain ⟨v1, rfl, M⟩ := hI
  refine sR ?_
  refine pH 12 (.bool false) (dF ((((tkV s f 2).size : Nat) : Int) < (((tkV s f 2).size : Nat) : Int)) (by omega)) ?_
  refine nT ?_
  refine wp_seq ?_
  refine wp_cond_false (by kernel_rfl) ?_
  refine wp_exit ?_
  refine au_then_exit ?_
  refine au_then_exit ?_
  refine au_block_exit ?_
  refine au_then ?_
  refine sR ?_
  refine pV 21 (.int .u64 (bn (tkV s f 2) ((tkV s f 2).size))) ?_
  refine pV 22 (.int .u16 (cv .u16 (bn (tkV s f 2) ((tkV s f 2).size)))) ?_
  refine pV 2 (.int .u16 (cv .u16 (bn (tkV s f 2) ((tkV s f 2).size)))) ?_
  refine nT ?_
  refine wp_ret ?_
  have e0 : (cv .u16 (bnv (tkV s f 2))) = (cv .u16 (bn (tkV s f 2) ((tkV s f 2).size))) := rfl
  exact bodyPost_ret (v := .int .u16 (cv .u16 (bn (tkV s f 2) ((tkV s f 2).size)))) (results_tmp1 Try.results70 _ _ _ (by kernel_rfl)) (by kernel_rfl) ⟨by rw [e0], M.old, by simpa only [e0] using M.get 0 rfl⟩
set_option maxRecDepth 100000 in
set_option maxHeartbeats 4000000 in
set_option linter.unusedSimpArgs false in
theorem r_U16 (g : Nat) (s : ByteArray) (f : Int) (w : World) (hL : Laid w)  (hg : w.heap[g]? = some (.cells (av 3 (ls [.bool true, .string s, .int .i64 f])) 112)) :
  Calls Try.prog 54 #[.pointer (some ⟨g, 0, none⟩)] w fun r w' => r = .returned (.int .u16 (cv .u16 (bnv (tkV s f 2)))) ∧ Grw w w' [g] ∧ w'.heap[g]? = some (.cells (av 3 (ls [.bool true, .string (tkS s f 2), .int .i64 (tkF s f 2)])) 112) := by
 go_enter Try.func54, Try.ntmps54
 have M := Mem.startp hL hg
 refine sR ?_
 refine pV 2 (.int .u16 0) ?_
 refine nT ?_
 refine sR ?_
 refine pV 3 (.pointer (some ⟨g, 0, none⟩)) ?_
 refine pl_callp M (want_no rfl) (some 4) rfl 70 #[.pointer (some ⟨g, 0, none⟩)] (.int .u16 (cv .u16 (bnv (tkV s f 2)))) 0 g (.cells (av 3 (ls [.bool true, .string s, .int .i64 f])) 112) (.cells (av 3 (ls [.bool true, .string (tkS s f 2), .int .i64 (tkF s f 2)])) 112) rfl (fun _ => by kernel_rfl) (fun w M => c_next2 g s f w M.laid (M.get 0 rfl)) fun u1 M => ?_
 replace M : Mem ⟨w, [g]⟩ [⟨g, .cells (av 3 (ls [.bool true, .string (tkS s f 2), .int .i64 (tkF s f 2)])) 112⟩] u1 := M
 refine pV 2 (.int .u16 (cv .u16 (bnv (tkV s f 2)))) ?_
 refine nT ?_
 refine wp_ret ?_
 exact bodyPost_ret (v := .int .u16 (cv .u16 (bnv (tkV s f 2)))) (results_tmp1 Try.results54 _ _ _ (by kernel_rfl)) (by kernel_rfl) ⟨rfl, M.old, M.get 0 rfl⟩
set_option maxRecDepth 100000 in
set_option maxHeartbeats 4000000 in
set_option linter.unusedSimpArgs false in
theorem c_next4 (g : Nat) (s : ByteArray) (f : Int) (w : World) (hL : Laid w)  (hg : w.heap[g]? = some (.cells (av 3 (ls [.bool true, .string s, .int .i64 f])) 112)) :
  Calls Try.prog 68 #[.pointer (some ⟨g, 0, none⟩)] w fun r w' => r = .returned (.int .u32 (cv .u32 (bnv (tkV s f 4)))) ∧ Grw w w' [g] ∧ w'.heap[g]? = some (.cells (av 3 (ls [.bool true, .string (tkS s f 4), .int .i64 (tkF s f 4)])) 112) := by
 go_enter Try.func68, Try.ntmps68
 have M := Mem.startp hL hg
 have hz : (tkV s f 4).size ≤ 4 := tkV_le s f 4
 refine sR ?_
 refine pV 2 (.int .u32 0) ?_
 refine nT ?_
 refine sR ?_
 refine pV 3 (.int .u64 0) ?_
 refine nT ?_
 refine wp_seq ?_
 refine sR ?_
 refine pV 6 (.pointer (some ⟨g, 0, none⟩)) ?_
 refine pC M 7 81 #[] (.int .i64 4) (fun w M => c_size4 w M.laid) fun u1 M => ?_
 refine pl_callp M (want_no rfl) (some 8) rfl 57 #[.pointer (some ⟨g, 0, none⟩), .int .i64 4] (.string (tkV s f 4)) 0 g (.cells (av 3 (ls [.bool true, .string s, .int .i64 f])) 112) (.cells (av 3 (ls [.bool true, .string (tkS s f 4), .int .i64 (tkF s f 4)])) 112) rfl (fun _ => by kernel_rfl) (fun w M => c_Take g s f 4 w M.laid (M.get 0 rfl)) fun u2 M => ?_
 replace M : Mem ⟨w, [g]⟩ [⟨g, .cells (av 3 (ls [.bool true, .string (tkS s f 4), .int .i64 (tkF s f 4)])) 112⟩] u2 := M
 refine pl_conv M (want_no rfl) (some 9) rfl _ rfl (tkV s f 4) (by kernel_rfl) ?_
 intro g1 cap1 Z1 u3 hZ1 M
 replace M : Mem ⟨w, [g]⟩ [⟨g, .cells (av 3 (ls [.bool true, .string (tkS s f 4), .int .i64 (tkF s f 4)])) 112⟩, ⟨g1, Z1⟩] u3 := M
 refine pV 10 (.int .i64 (((tkV s f 4).size : Nat) : Int)) ?_
 refine pV 11 (.int .i64 0) ?_
 refine nT ?_
 refine wp_block ?_
 refine au_loop (fun j a w' => ∃ v1 : Nat → Value, a = ⟨#[.pointer (some ⟨g, 0, none⟩), undef, .int .u32 0, .int .u64 (bn (tkV s f 4) j), undef, v1 5, .pointer (some ⟨g, 0, none⟩), .int .i64 4, .string (tkV s f 4), .slice (some ⟨g1, 0, none⟩) (tkV s f 4).size cap1, .int .i64 (((tkV s f 4).size : Nat) : Int), .int .i64 (j : Int), v1 12, v1 13, v1 14, v1 15, v1 16, v1 17, v1 18, v1 19, v1 20, undef, undef], []⟩ ∧ Mem ⟨w, [g]⟩ [⟨g, .cells (av 3 (ls [.bool true, .string (tkS s f 4), .int .i64 (tkF s f 4)])) 112⟩, ⟨g1, Z1⟩] w') (tkV s f 4).size ⟨fun k_ => ([undef, undef, undef, undef, undef, undef, undef, undef, undef, undef, undef, undef, undef, undef, undef, undef] : List Value).getD (k_ - 5) undef, by kernel_rfl, M⟩ ?_ ?_
 ·intro j a u0 hj hI
  obtain ⟨v1, rfl, M⟩ := hI
  refine sR ?_
  refine pH 12 (.bool true) (dTz ((j : Int) < (((tkV s f 4).size : Nat) : Int)) (by omega)) ?_
  refine nT ?_
  refine wp_seq ?_
  refine wp_cond_true (by kernel_rfl) ?_
  refine wp_skip ?_
  refine au_then ?_
  refine wp_seq ?_
  refine wp_block ?_
  refine sR ?_
  refine pH 13 (.pointer (some ⟨g1, j, none⟩)) (run_ix0 49 5 Try.underlying49 inz5 _ _ rfl g1 ((tkV s f 4).size) cap1 (by kernel_rfl) .i64 j (by kernel_rfl) (by omega)) ?_
  refine pEz M 14 g1 j (.int .u8 (bt (tkV s f 4) j)) (fun w M => hZ1.cell (M.get 1 rfl) (vs8_sb _ _ (by omega))) ?_
  refine pV 5 (.int .u8 (bt (tkV s f 4) j)) ?_
  refine nT ?_
  refine rg_lit ?_
  refine pV 15 (.int .u64 (bn (tkV s f 4) j)) ?_
  refine pV 16 (.int .u64 (sl (bn (tkV s f 4) j) 8)) ?_
  refine pV 17 (.int .u8 (bt (tkV s f 4) j)) ?_
  refine pV 18 (.int .u64 (cv .u64 (bt (tkV s f 4) j))) ?_
  refine pV 19 (.int .u64 (uo (sl (bn (tkV s f 4) j) 8) (cv .u64 (bt (tkV s f 4) j)))) ?_
  refine pV 3 (.int .u64 (uo (sl (bn (tkV s f 4) j) 8) (cv .u64 (bt (tkV s f 4) j)))) ?_
  refine pl_nil ?_
  refine au_block ?_
  refine au_then ?_
  refine rg_lit ?_
  refine pH 20 (.int .i64 ((j + 1 : Nat) : Int)) (iV ((j : Int) + 1) (by omega) (by omega) (by omega)) ?_
  refine pV 11 (.int .i64 ((j + 1 : Nat) : Int)) ?_
  refine nT ?_
  exact ⟨fun k_ => ([.int .u8 (bt (tkV s f 4) j), undef, undef, undef, undef, undef, undef, .bool true, .pointer (some ⟨g1, j, none⟩), .int .u8 (bt (tkV s f 4) j), .int .u64 (bn (tkV s f 4) j), .int .u64 (sl (bn (tkV s f 4) j) 8), .int .u8 (bt (tkV s f 4) j), .int .u64 (cv .u64 (bt (tkV s f 4) j)), .int .u64 (uo (sl (bn (tkV s f 4) j) 8) (cv .u64 (bt (tkV s f 4) j))), .int .i64 ((j + 1 : Nat) : Int)] : List Value).getD (k_ - 5) undef, by kernel_rfl, M⟩
 ·intro a u0 hI
  obtain ⟨v1, rfl, M⟩ := hI
  refine sR ?_
  refine pH 12 (.bool false) (dF ((((tkV s f 4).size : Nat) : Int) < (((tkV s f 4).size : Nat) : Int)) (by omega)) ?_
  refine nT ?_
  refine wp_seq ?_
  refine wp_cond_false (by kernel_rfl) ?_
  refine wp_exit ?_
  refine au_then_exit ?_
  refine au_then_exit ?_
  refine au_block_exit ?_
  refine au_then ?_
  refine sR ?_
  refine pV 21 (.int .u64 (bn (tkV s f 4) ((tkV s f 4).size))) ?_
  refine pV 22 (.int .u32 (cv .u32 (bn (tkV s f 4) ((tkV s f 4).size)))) ?_
  refine pV 2 (.int .u32 (cv .u32 (bn (tkV s f 4) ((tkV s f 4).size)))) ?_
  refine nT ?_
  refine wp_ret ?_
  have e0 : (cv .u32 (bnv (tkV s f 4))) = (cv .u32 (bn (tkV s f 4) ((tkV s f 4).size))) := rfl
  exact bodyPost_ret (v := .int .u32 (cv .u32 (bn (tkV s f 4) ((tkV s f 4).size)))) (results_tmp1 Try.results68 _ _ _ (by kernel_rfl)) (by kernel_rfl) ⟨by rw [e0], M.old, by simpa only [e0] using M.get 0 rfl⟩
set_option maxRecDepth 100000 in
set_option maxHeartbeats 4000000 in
set_option linter.unusedSimpArgs false in
theorem r_U32 (g : Nat) (s : ByteArray) (f : Int) (w : World) (hL : Laid w)  (hg : w.heap[g]? = some (.cells (av 3 (ls [.bool true, .string s, .int .i64 f])) 112)) :
  Calls Try.prog 52 #[.pointer (some ⟨g, 0, none⟩)] w fun r w' => r = .returned (.int .u32 (cv .u32 (bnv (tkV s f 4)))) ∧ Grw w w' [g] ∧ w'.heap[g]? = some (.cells (av 3 (ls [.bool true, .string (tkS s f 4), .int .i64 (tkF s f 4)])) 112) := by
 go_enter Try.func52, Try.ntmps52
 have M := Mem.startp hL hg
 refine sR ?_
 refine pV 2 (.int .u32 0) ?_
 refine nT ?_
 refine sR ?_
 refine pV 3 (.pointer (some ⟨g, 0, none⟩)) ?_
 refine pl_callp M (want_no rfl) (some 4) rfl 68 #[.pointer (some ⟨g, 0, none⟩)] (.int .u32 (cv .u32 (bnv (tkV s f 4)))) 0 g (.cells (av 3 (ls [.bool true, .string s, .int .i64 f])) 112) (.cells (av 3 (ls [.bool true, .string (tkS s f 4), .int .i64 (tkF s f 4)])) 112) rfl (fun _ => by kernel_rfl) (fun w M => c_next4 g s f w M.laid (M.get 0 rfl)) fun u1 M => ?_
 replace M : Mem ⟨w, [g]⟩ [⟨g, .cells (av 3 (ls [.bool true, .string (tkS s f 4), .int .i64 (tkF s f 4)])) 112⟩] u1 := M
 refine pV 2 (.int .u32 (cv .u32 (bnv (tkV s f 4)))) ?_
 refine nT ?_
 refine wp_ret ?_
 exact bodyPost_ret (v := .int .u32 (cv .u32 (bnv (tkV s f 4)))) (results_tmp1 Try.results52 _ _ _ (by kernel_rfl)) (by kernel_rfl) ⟨rfl, M.old, M.get 0 rfl⟩
set_option maxRecDepth 100000 in
set_option maxHeartbeats 4000000 in
set_option linter.unusedSimpArgs false in
theorem c_next8 (g : Nat) (s : ByteArray) (f : Int) (w : World) (hL : Laid w)  (hg : w.heap[g]? = some (.cells (av 3 (ls [.bool true, .string s, .int .i64 f])) 112)) :
  Calls Try.prog 69 #[.pointer (some ⟨g, 0, none⟩)] w fun r w' => r = .returned (.int .u64 (bnv (tkV s f 8))) ∧ Grw w w' [g] ∧ w'.heap[g]? = some (.cells (av 3 (ls [.bool true, .string (tkS s f 8), .int .i64 (tkF s f 8)])) 112) := by
 go_enter Try.func69, Try.ntmps69
 have M := Mem.startp hL hg
 have hz : (tkV s f 8).size ≤ 8 := tkV_le s f 8
 refine sR ?_
 refine pV 2 (.int .u64 0) ?_
 refine nT ?_
 refine sR ?_
 refine pV 3 (.int .u64 0) ?_
 refine nT ?_
 refine wp_seq ?_
 refine sR ?_
 refine pV 6 (.pointer (some ⟨g, 0, none⟩)) ?_
 refine pC M 7 82 #[] (.int .i64 8) (fun w M => c_size8 w M.laid) fun u1 M => ?_
 refine pl_callp M (want_no rfl) (some 8) rfl 57 #[.pointer (some ⟨g, 0, none⟩), .int .i64 8] (.string (tkV s f 8)) 0 g (.cells (av 3 (ls [.bool true, .string s, .int .i64 f])) 112) (.cells (av 3 (ls [.bool true, .string (tkS s f 8), .int .i64 (tkF s f 8)])) 112) rfl (fun _ => by kernel_rfl) (fun w M => c_Take g s f 8 w M.laid (M.get 0 rfl)) fun u2 M => ?_
 replace M : Mem ⟨w, [g]⟩ [⟨g, .cells (av 3 (ls [.bool true, .string (tkS s f 8), .int .i64 (tkF s f 8)])) 112⟩] u2 := M
 refine pl_conv M (want_no rfl) (some 9) rfl _ rfl (tkV s f 8) (by kernel_rfl) ?_
 intro g1 cap1 Z1 u3 hZ1 M
 replace M : Mem ⟨w, [g]⟩ [⟨g, .cells (av 3 (ls [.bool true, .string (tkS s f 8), .int .i64 (tkF s f 8)])) 112⟩, ⟨g1, Z1⟩] u3 := M
 refine pV 10 (.int .i64 (((tkV s f 8).size : Nat) : Int)) ?_
 refine pV 11 (.int .i64 0) ?_
 refine nT ?_
 refine wp_block ?_
 refine au_loop (fun j a w' => ∃ v1 : Nat → Value, a = ⟨#[.pointer (some ⟨g, 0, none⟩), undef, .int .u64 0, .int .u64 (bn (tkV s f 8) j), undef, v1 5, .pointer (some ⟨g, 0, none⟩), .int .i64 8, .string (tkV s f 8), .slice (some ⟨g1, 0, none⟩) (tkV s f 8).size cap1, .int .i64 (((tkV s f 8).size : Nat) : Int), .int .i64 (j : Int), v1 12, v1 13, v1 14, v1 15, v1 16, v1 17, v1 18, v1 19, v1 20, undef], []⟩ ∧ Mem ⟨w, [g]⟩ [⟨g, .cells (av 3 (ls [.bool true, .string (tkS s f 8), .int .i64 (tkF s f 8)])) 112⟩, ⟨g1, Z1⟩] w') (tkV s f 8).size ⟨fun k_ => ([undef, undef, undef, undef, undef, undef, undef, undef, undef, undef, undef, undef, undef, undef, undef, undef] : List Value).getD (k_ - 5) undef, by kernel_rfl, M⟩ ?_ ?_
 ·intro j a u0 hj hI
  obtain ⟨v1, rfl, M⟩ := hI
  refine sR ?_
  refine pH 12 (.bool true) (dTz ((j : Int) < (((tkV s f 8).size : Nat) : Int)) (by omega)) ?_
  refine nT ?_
  refine wp_seq ?_
  refine wp_cond_true (by kernel_rfl) ?_
  refine wp_skip ?_
  refine au_then ?_
  refine wp_seq ?_
  refine wp_block ?_
  refine sR ?_
  refine pH 13 (.pointer (some ⟨g1, j, none⟩)) (run_ix0 49 5 Try.underlying49 inz5 _ _ rfl g1 ((tkV s f 8).size) cap1 (by kernel_rfl) .i64 j (by kernel_rfl) (by omega)) ?_
  refine pEz M 14 g1 j (.int .u8 (bt (tkV s f 8) j)) (fun w M => hZ1.cell (M.get 1 rfl) (vs8_sb _ _ (by omega))) ?_
  refine pV 5 (.int .u8 (bt (tkV s f 8) j)) ?_
  refine nT ?_
  refine rg_lit ?_
  refine pV 15 (.int .u64 (bn (tkV s f 8) j)) ?_
  refine pV 16 (.int .u64 (sl (bn (tkV s f 8) j) 8)) ?_
  refine pV 17 (.int .u8 (bt (tkV s f 8) j)) ?_
  refine pV 18 (.int .u64 (cv .u64 (bt (tkV s f 8) j))) ?_
  refine pV 19 (.int .u64 (uo (sl (bn (tkV s f 8) j) 8) (cv .u64 (bt (tkV s f 8) j)))) ?_
  refine pV 3 (.int .u64 (uo (sl (bn (tkV s f 8) j) 8) (cv .u64 (bt (tkV s f 8) j)))) ?_
  refine pl_nil ?_
  refine au_block ?_
  refine au_then ?_
  refine rg_lit ?_
  refine pH 20 (.int .i64 ((j + 1 : Nat) : Int)) (iV ((j : Int) + 1) (by omega) (by omega) (by omega)) ?_
  refine pV 11 (.int .i64 ((j + 1 : Nat) : Int)) ?_
  refine nT ?_
  exact ⟨fun k_ => ([.int .u8 (bt (tkV s f 8) j), undef, undef, undef, undef, undef, undef, .bool true, .pointer (some ⟨g1, j, none⟩), .int .u8 (bt (tkV s f 8) j), .int .u64 (bn (tkV s f 8) j), .int .u64 (sl (bn (tkV s f 8) j) 8), .int .u8 (bt (tkV s f 8) j), .int .u64 (cv .u64 (bt (tkV s f 8) j)), .int .u64 (uo (sl (bn (tkV s f 8) j) 8) (cv .u64 (bt (tkV s f 8) j))), .int .i64 ((j + 1 : Nat) : Int)] : List Value).getD (k_ - 5) undef, by kernel_rfl, M⟩
 ·intro a u0 hI
  obtain ⟨v1, rfl, M⟩ := hI
  refine sR ?_
  refine pH 12 (.bool false) (dF ((((tkV s f 8).size : Nat) : Int) < (((tkV s f 8).size : Nat) : Int)) (by omega)) ?_
  refine nT ?_
  refine wp_seq ?_
  refine wp_cond_false (by kernel_rfl) ?_
  refine wp_exit ?_
  refine au_then_exit ?_
  refine au_then_exit ?_
  refine au_block_exit ?_
  refine au_then ?_
  refine sR ?_
  refine pV 21 (.int .u64 (bn (tkV s f 8) ((tkV s f 8).size))) ?_
  refine pV 2 (.int .u64 (bn (tkV s f 8) ((tkV s f 8).size))) ?_
  refine nT ?_
  refine wp_ret ?_
  have e0 : (bnv (tkV s f 8)) = (bn (tkV s f 8) ((tkV s f 8).size)) := rfl
  exact bodyPost_ret (v := .int .u64 (bn (tkV s f 8) ((tkV s f 8).size))) (results_tmp1 Try.results69 _ _ _ (by kernel_rfl)) (by kernel_rfl) ⟨by rw [e0], M.old, by simpa only [e0] using M.get 0 rfl⟩
set_option maxRecDepth 100000 in
set_option maxHeartbeats 4000000 in
set_option linter.unusedSimpArgs false in
theorem r_U64 (g : Nat) (s : ByteArray) (f : Int) (w : World) (hL : Laid w)  (hg : w.heap[g]? = some (.cells (av 3 (ls [.bool true, .string s, .int .i64 f])) 112)) :
  Calls Try.prog 53 #[.pointer (some ⟨g, 0, none⟩)] w fun r w' => r = .returned (.int .u64 (bnv (tkV s f 8))) ∧ Grw w w' [g] ∧ w'.heap[g]? = some (.cells (av 3 (ls [.bool true, .string (tkS s f 8), .int .i64 (tkF s f 8)])) 112) := by
 go_enter Try.func53, Try.ntmps53
 have M := Mem.startp hL hg
 refine sR ?_
 refine pV 2 (.int .u64 0) ?_
 refine nT ?_
 refine sR ?_
 refine pV 3 (.pointer (some ⟨g, 0, none⟩)) ?_
 refine pl_callp M (want_no rfl) (some 4) rfl 69 #[.pointer (some ⟨g, 0, none⟩)] (.int .u64 (bnv (tkV s f 8))) 0 g (.cells (av 3 (ls [.bool true, .string s, .int .i64 f])) 112) (.cells (av 3 (ls [.bool true, .string (tkS s f 8), .int .i64 (tkF s f 8)])) 112) rfl (fun _ => by kernel_rfl) (fun w M => c_next8 g s f w M.laid (M.get 0 rfl)) fun u1 M => ?_
 replace M : Mem ⟨w, [g]⟩ [⟨g, .cells (av 3 (ls [.bool true, .string (tkS s f 8), .int .i64 (tkF s f 8)])) 112⟩] u1 := M
 refine pV 2 (.int .u64 (bnv (tkV s f 8))) ?_
 refine nT ?_
 refine wp_ret ?_
 exact bodyPost_ret (v := .int .u64 (bnv (tkV s f 8))) (results_tmp1 Try.results53 _ _ _ (by kernel_rfl)) (by kernel_rfl) ⟨rfl, M.old, M.get 0 rfl⟩
end Go.Proofs.Ytbechjlkmajcoaa

namespace Go.Proofs.Ytbechjlkmajcoaa
open Go.RowKit
def mA (v : Bool) (h l : Int) : Bool := v || (decide (h = 0) && decide (l < 4294967296))
set_option maxRecDepth 100000 in
set_option maxHeartbeats 4000000 in
set_option linter.unusedSimpArgs false in
theorem c_mayAddr (v : Bool) (h l : Int) (w : World) (hL : Laid w)  :
  Calls Try.prog 78 #[.agg (av 3 (ls [.bool (v), .int .u64 h, .int .u64 l]))] w fun r w' => r = .returned (.bool (mA v h l)) ∧ Below w.heap.size w w' := by
 go_enter Try.func78, Try.ntmps78
 have M := Mem.start hL
 refine sR ?_
 refine pN M 1 (.cells (av 3 (ls [.bool (v), .int .u64 h, .int .u64 l])) 25) fun g1 u1 M => ?_
 replace M : Mem ⟨w, []⟩ [⟨g1, .cells (av 3 (ls [.bool (v), .int .u64 h, .int .u64 l])) 25⟩] u1 := M
 refine pV 2 (.bool false) ?_
 refine nT ?_
 refine sR ?_
 refine pV 3 (.pointer (some ⟨g1, 0, none⟩)) ?_
 rcases Bool.eq_false_or_eq_true (v) with c0 | c0
 ·skip
  refine pEz M 4 g1 0 (.bool true) (fun w M => M.cell 0 rfl (by decide) (congrArg Value.bool c0)) ?_
  refine pV 5 (.bool true) ?_
  refine pl_skip (want_off 2 false rfl 5 rfl (by kernel_rfl)) (some 6) rfl ?_
  refine pl_skip (want_off 2 false rfl 5 rfl (by kernel_rfl)) (some 7) rfl ?_
  refine pl_skip (want_off 2 false rfl 5 rfl (by kernel_rfl)) (some 8) rfl ?_
  refine pl_skip (want_off 2 false rfl 5 rfl (by kernel_rfl)) (some 9) rfl ?_
  refine pl_skip (want_und 6 true rfl 9 rfl (by kernel_rfl)) (some 10) rfl ?_
  refine pl_skip (want_und 6 true rfl 9 rfl (by kernel_rfl)) (some 11) rfl ?_
  refine pl_skip (want_und 6 true rfl 9 rfl (by kernel_rfl)) (some 12) rfl ?_
  refine pl_skip (want_off 2 false rfl 5 rfl (by kernel_rfl)) (some 13) rfl ?_
  refine pV 14 (.bool true) ?_
  refine pV 2 (.bool true) ?_
  refine nT ?_
  refine wp_ret ?_
  have e0 : mA v h l = true := by simp [mA, c0]
  exact bodyPost_ret (v := .bool true) (results_tmp1 Try.results78 _ _ _ (by kernel_rfl)) (by kernel_rfl) ⟨by rw [e0], below_grown M.old⟩
 ·skip
  refine pEz M 4 g1 0 (.bool false) (fun w M => M.cell 0 rfl (by decide) (congrArg Value.bool c0)) ?_
  refine pV 5 (.bool false) ?_
  refine pl_val (want_on 2 false rfl 5 rfl (by kernel_rfl)) (some 6) rfl (.pointer (some ⟨g1, 1, none⟩)) (fun _ => by kernel_rfl) ?_
  refine pl_cell M (want_on 2 false rfl 5 rfl (by kernel_rfl)) (some 7) rfl 23 _ rfl g1 1 (by kernel_rfl) (.int .u64 h) (fun _ => by kernel_rfl) (fun w M => M.cell 0 rfl (by decide) rfl) ?_
  by_cases c1 : h = 0
  ·skip
   refine pl_val (want_on 2 false rfl 5 rfl (by kernel_rfl)) (some 8) rfl (.bool true) (fun w => Eq.trans (b := .ok (.value (.bool (decide (h = 0)))) w) (by kernel_rfl) (by rw [decide_eq_true (c1)])) ?_
   refine pl_val (want_on 2 false rfl 5 rfl (by kernel_rfl)) (some 9) rfl (.bool true) (fun _ => by kernel_rfl) ?_
   refine pl_val (want_on 6 true rfl 9 rfl (by kernel_rfl)) (some 10) rfl (.pointer (some ⟨g1, 2, none⟩)) (fun _ => by kernel_rfl) ?_
   refine pl_cell M (want_on 6 true rfl 9 rfl (by kernel_rfl)) (some 11) rfl 23 _ rfl g1 2 (by kernel_rfl) (.int .u64 l) (fun _ => by kernel_rfl) (fun w M => M.cell 0 rfl (by decide) rfl) ?_
   by_cases c2 : l < 4294967296
   ·skip
    refine pl_val (want_on 6 true rfl 9 rfl (by kernel_rfl)) (some 12) rfl (.bool true) (fun w => Eq.trans (b := .ok (.value (.bool (decide (l < 4294967296)))) w) (by kernel_rfl) (by rw [decide_eq_true (c2)])) ?_
    refine pl_val (want_on 2 false rfl 5 rfl (by kernel_rfl)) (some 13) rfl (.bool true) (fun _ => by kernel_rfl) ?_
    refine pV 14 (.bool true) ?_
    refine pV 2 (.bool true) ?_
    refine nT ?_
    refine wp_ret ?_
    have e0 : mA v h l = true := by simp [mA, c0, c1, c2]
    exact bodyPost_ret (v := .bool true) (results_tmp1 Try.results78 _ _ _ (by kernel_rfl)) (by kernel_rfl) ⟨by rw [e0], below_grown M.old⟩
   ·skip
    refine pl_val (want_on 6 true rfl 9 rfl (by kernel_rfl)) (some 12) rfl (.bool false) (fun w => Eq.trans (b := .ok (.value (.bool (decide (l < 4294967296)))) w) (by kernel_rfl) (by rw [decide_eq_false (c2)])) ?_
    refine pl_val (want_on 2 false rfl 5 rfl (by kernel_rfl)) (some 13) rfl (.bool false) (fun _ => by kernel_rfl) ?_
    refine pV 14 (.bool false) ?_
    refine pV 2 (.bool false) ?_
    refine nT ?_
    refine wp_ret ?_
    have e0 : mA v h l = false := by simp [mA, c0, c1, c2]
    exact bodyPost_ret (v := .bool false) (results_tmp1 Try.results78 _ _ _ (by kernel_rfl)) (by kernel_rfl) ⟨by rw [e0], below_grown M.old⟩
  ·skip
   refine pl_val (want_on 2 false rfl 5 rfl (by kernel_rfl)) (some 8) rfl (.bool false) (fun w => Eq.trans (b := .ok (.value (.bool (decide (h = 0)))) w) (by kernel_rfl) (by rw [decide_eq_false (c1)])) ?_
   refine pl_val (want_on 2 false rfl 5 rfl (by kernel_rfl)) (some 9) rfl (.bool false) (fun _ => by kernel_rfl) ?_
   refine pl_skip (want_off 6 true rfl 9 rfl (by kernel_rfl)) (some 10) rfl ?_
   refine pl_skip (want_off 6 true rfl 9 rfl (by kernel_rfl)) (some 11) rfl ?_
   refine pl_skip (want_off 6 true rfl 9 rfl (by kernel_rfl)) (some 12) rfl ?_
   refine pl_val (want_on 2 false rfl 5 rfl (by kernel_rfl)) (some 13) rfl (.bool false) (fun _ => by kernel_rfl) ?_
   refine pV 14 (.bool false) ?_
   refine pV 2 (.bool false) ?_
   refine nT ?_
   refine wp_ret ?_
   have e0 : mA v h l = false := by simp [mA, c0, c1]
   exact bodyPost_ret (v := .bool false) (results_tmp1 Try.results78 _ _ _ (by kernel_rfl)) (by kernel_rfl) ⟨by rw [e0], below_grown M.old⟩
end Go.Proofs.Ytbechjlkmajcoaa

namespace Go.Proofs.Ytbechjlkmajcoaa
open Go.RowKit
def hdr (v : Bool) : Int := if v = true then 40 else 20
def my (v0 : Bool) (h0 l0 : Int) (v1 : Bool) (h1 l1 n : Int) : Int := if (mA v0 h0 l0 && mA v1 h1 l1 && decide (v0 = v1)) = true then (if 1500 < hdr v0 + n then 4 else 0) else 2
def dB (v : Bool) (h l : Int) : ByteArray := if v = true then be8 h ++ be8 l else be4 l
theorem be4_u32 (x : Int) : be4 (cv .u64 (cv .u32 x)) = be4 x := by
 unfold be4
 simp only [cv_u8, cv_u32, cv_u64, sr_8]
 congr 2
 ·omega
 ·congr 1
  ·omega
  ·congr 1
   ·omega
   ·congr 1
    omega
theorem be2_u16 (x : Int) : be2 (cv .u64 (cv .u16 x)) = be2 x := by
 unfold be2
 simp only [cv_u8, cv_u16, cv_u64, sr_8]
 congr 2
 ·omega
 ·congr 1
  omega
theorem be2_u64 (x : Int) : be2 (cv .u64 x) = be2 x := by
 unfold be2
 simp only [cv_u8, cv_u64, sr_8]
 congr 2
 ·omega
 ·congr 1
  omega
set_option maxRecDepth 100000 in
set_option maxHeartbeats 4000000 in
set_option linter.unusedSimpArgs false in
theorem c_layT  (w : World) (hL : Laid w)  :
  Calls Try.prog 79 #[.bool true] w fun r w' => r = .returned (.agg (av 7 (ls [.int .u8 96, .int .i64 40, .int .i64 4, .int .i64 7, .int .i64 6, .int .i64 8, .int .i64 40]))) ∧ Below w.heap.size w w' := by
 go_enter Try.func79, Try.ntmps79
 have M := Mem.start hL
 refine sR ?_
 refine pN M 2 (.cells (av 7 (ls [.int .u8 0, .int .i64 0, .int .i64 0, .int .i64 0, .int .i64 0, .int .i64 0, .int .i64 0])) 122) fun g1 u1 M => ?_
 replace M : Mem ⟨w, []⟩ [⟨g1, .cells (av 7 (ls [.int .u8 0, .int .i64 0, .int .i64 0, .int .i64 0, .int .i64 0, .int .i64 0, .int .i64 0])) 122⟩] u1 := M
 refine nT ?_
 refine wp_seq ?_
 refine sR ?_
 refine pV 3 (.bool true) ?_
 refine nT ?_
 refine wp_cond_true (by kernel_rfl) ?_
 refine sR ?_
 refine pV 4 (.agg (av 7 (ls [.int .u8 96, .int .i64 40, .int .i64 4, .int .i64 7, .int .i64 6, .int .i64 8, .int .i64 40]))) ?_
 refine pl_put M (want_no rfl) rfl 122 _ _ rfl 0 g1 0 (by kernel_rfl) 7 122 (ls [.int .u8 0, .int .i64 0, .int .i64 0, .int .i64 0, .int .i64 0, .int .i64 0, .int .i64 0]) rfl 7 (ls [.int .u8 96, .int .i64 40, .int .i64 4, .int .i64 7, .int .i64 6, .int .i64 8, .int .i64 40]) (ls [.int .u8 96, .int .i64 40, .int .i64 4, .int .i64 7, .int .i64 6, .int .i64 8, .int .i64 40]) (by kernel_rfl) inz122 (by decide) (one_ls _ rfl) (fun j hj => by rw [if_pos (by omega), Nat.sub_zero]) fun u2 M => ?_
 replace M : Mem ⟨w, []⟩ [⟨g1, .cells (av 7 (ls [.int .u8 96, .int .i64 40, .int .i64 4, .int .i64 7, .int .i64 6, .int .i64 8, .int .i64 40])) 122⟩] u2 := M
 refine nT ?_
 refine wp_ret ?_
 refine au_then_ret ?_
 exact bodyPost_ret (v := .agg (av 7 (ls [.int .u8 96, .int .i64 40, .int .i64 4, .int .i64 7, .int .i64 6, .int .i64 8, .int .i64 40]))) (results_cell_row Try.results79 _ _ g1 122 (av 7 (ls [.int .u8 96, .int .i64 40, .int .i64 4, .int .i64 7, .int .i64 6, .int .i64 8, .int .i64 40])) (0, 0) _ (by kernel_rfl) (M.get 0 rfl) Try.underlying122 rfl (by rw [av_size]; exact inz122)) (by kernel_rfl) ⟨rfl, below_grown M.old⟩
set_option maxRecDepth 100000 in
set_option maxHeartbeats 4000000 in
set_option linter.unusedSimpArgs false in
theorem c_layF  (w : World) (hL : Laid w)  :
  Calls Try.prog 79 #[.bool false] w fun r w' => r = .returned (.agg (av 7 (ls [.int .u8 69, .int .i64 20, .int .i64 2, .int .i64 8, .int .i64 9, .int .i64 12, .int .i64 0]))) ∧ Below w.heap.size w w' := by
 go_enter Try.func79, Try.ntmps79
 have M := Mem.start hL
 refine sR ?_
 refine pN M 2 (.cells (av 7 (ls [.int .u8 0, .int .i64 0, .int .i64 0, .int .i64 0, .int .i64 0, .int .i64 0, .int .i64 0])) 122) fun g1 u1 M => ?_
 replace M : Mem ⟨w, []⟩ [⟨g1, .cells (av 7 (ls [.int .u8 0, .int .i64 0, .int .i64 0, .int .i64 0, .int .i64 0, .int .i64 0, .int .i64 0])) 122⟩] u1 := M
 refine nT ?_
 refine wp_seq ?_
 refine sR ?_
 refine pV 3 (.bool false) ?_
 refine nT ?_
 refine wp_cond_false (by kernel_rfl) ?_
 refine wp_skip ?_
 refine au_then ?_
 refine sR ?_
 refine pV 5 (.agg (av 7 (ls [.int .u8 69, .int .i64 20, .int .i64 2, .int .i64 8, .int .i64 9, .int .i64 12, .int .i64 0]))) ?_
 refine pl_put M (want_no rfl) rfl 122 _ _ rfl 0 g1 0 (by kernel_rfl) 7 122 (ls [.int .u8 0, .int .i64 0, .int .i64 0, .int .i64 0, .int .i64 0, .int .i64 0, .int .i64 0]) rfl 7 (ls [.int .u8 69, .int .i64 20, .int .i64 2, .int .i64 8, .int .i64 9, .int .i64 12, .int .i64 0]) (ls [.int .u8 69, .int .i64 20, .int .i64 2, .int .i64 8, .int .i64 9, .int .i64 12, .int .i64 0]) (by kernel_rfl) inz122 (by decide) (one_ls _ rfl) (fun j hj => by rw [if_pos (by omega), Nat.sub_zero]) fun u2 M => ?_
 replace M : Mem ⟨w, []⟩ [⟨g1, .cells (av 7 (ls [.int .u8 69, .int .i64 20, .int .i64 2, .int .i64 8, .int .i64 9, .int .i64 12, .int .i64 0])) 122⟩] u2 := M
 refine nT ?_
 refine wp_ret ?_
 exact bodyPost_ret (v := .agg (av 7 (ls [.int .u8 69, .int .i64 20, .int .i64 2, .int .i64 8, .int .i64 9, .int .i64 12, .int .i64 0]))) (results_cell_row Try.results79 _ _ g1 122 (av 7 (ls [.int .u8 69, .int .i64 20, .int .i64 2, .int .i64 8, .int .i64 9, .int .i64 12, .int .i64 0])) (0, 0) _ (by kernel_rfl) (M.get 0 rfl) Try.underlying122 rfl (by rw [av_size]; exact inz122)) (by kernel_rfl) ⟨rfl, below_grown M.old⟩
set_option maxRecDepth 100000 in
set_option maxHeartbeats 4000000 in
set_option linter.unusedSimpArgs false in
theorem c_May (v0 : Bool) (h0 l0 : Int) (v1 : Bool) (h1 l1 p t : Int) (s : ByteArray) (hs : s.size ≤ 200000) (w : World) (hL : Laid w)  :
  Calls Try.prog 66 #[.agg (av 9 (ls [.bool (v0), .int .u64 h0, .int .u64 l0, .bool (v1), .int .u64 h1, .int .u64 l1, .int .u8 p, .int .u8 t, .string s]))] w fun r w' => r = .returned (.int .i64 (my v0 h0 l0 v1 h1 l1 (s.size : Int))) ∧ Below w.heap.size w w' := by
 go_enter Try.func66, Try.ntmps66
 have M := Mem.start hL
 refine sR ?_
 refine pN M 1 (.cells (av 9 (ls [.bool (v0), .int .u64 h0, .int .u64 l0, .bool (v1), .int .u64 h1, .int .u64 l1, .int .u8 p, .int .u8 t, .string s])) 110) fun g1 u1 M => ?_
 replace M : Mem ⟨w, []⟩ [⟨g1, .cells (av 9 (ls [.bool (v0), .int .u64 h0, .int .u64 l0, .bool (v1), .int .u64 h1, .int .u64 l1, .int .u8 p, .int .u8 t, .string s])) 110⟩] u1 := M
 refine pV 2 (.int .i64 0) ?_
 refine nT ?_
 refine wp_seq ?_
 refine wp_block ?_
 refine wp_seq ?_
 refine sR ?_
 refine pV 4 (.pointer (some ⟨g1, 0, none⟩)) ?_
 refine pL M 5 0 rfl 0 3 (ls [.bool (v0), .int .u64 h0, .int .u64 l0]) (part_ls _ 0 3 _ rfl) ?_
 rcases Bool.eq_false_or_eq_true (mA v0 h0 l0) with c0 | c0
 ·skip
  refine pC M 6 78 #[.agg (av 3 (ls [.bool (v0), .int .u64 h0, .int .u64 l0]))] (.bool true) (fun w M => call_val (c_mayAddr v0 h0 l0 w M.laid) (congrArg Value.bool c0)) fun u2 M => ?_
  refine pV 7 (.bool false) ?_
  refine pV 3 (.bool false) ?_
  refine nT ?_
  refine wp_cond_false (by kernel_rfl) ?_
  refine sR ?_
  refine pV 8 (.pointer (some ⟨g1, 3, none⟩)) ?_
  refine pL M 9 0 rfl 3 3 (ls [.bool (v1), .int .u64 h1, .int .u64 l1]) (part_ls _ 3 3 _ rfl) ?_
  rcases Bool.eq_false_or_eq_true (mA v1 h1 l1) with c1 | c1
  ·skip
   refine pC M 10 78 #[.agg (av 3 (ls [.bool (v1), .int .u64 h1, .int .u64 l1]))] (.bool true) (fun w M => call_val (c_mayAddr v1 h1 l1 w M.laid) (congrArg Value.bool c1)) fun u3 M => ?_
   refine pV 11 (.bool false) ?_
   refine pV 3 (.bool false) ?_
   refine nT ?_
   refine wp_cond_false (by kernel_rfl) ?_
   refine rg_lit ?_
   refine pV 12 (.pointer (some ⟨g1, 0, none⟩)) ?_
   refine pV 13 (.pointer (some ⟨g1, 0, none⟩)) ?_
   rcases Bool.eq_false_or_eq_true (v0) with c2 | c2
   ·skip
    refine pEz M 14 g1 0 (.bool true) (fun w M => M.cell 0 rfl (by decide) (congrArg Value.bool c2)) ?_
    refine pV 15 (.pointer (some ⟨g1, 3, none⟩)) ?_
    refine pV 16 (.pointer (some ⟨g1, 3, none⟩)) ?_
    rcases Bool.eq_false_or_eq_true (v1) with c3 | c3
    ·skip
     refine pEz M 17 g1 3 (.bool true) (fun w M => M.cell 0 rfl (by decide) (congrArg Value.bool c3)) ?_
     refine pV 18 (.bool false) ?_
     refine pV 3 (.bool false) ?_
     refine nT ?_
     refine wp_cond_false (by kernel_rfl) ?_
     refine wp_seq ?_
     refine rg_tail M 10 (by kernel_rfl) (by kernel_rfl) ?_
     simp only [List.take_succ_cons, List.take_zero]
     refine kV 20 (.pointer (some ⟨g1, 8, none⟩)) ?_
     refine kE M 21 g1 8 (.string s) (fun w M => M.cell 0 rfl (by decide) rfl) ?_
     refine kV 22 (.int .i64 (s.size : Int)) ?_
     refine kV 23 (.pointer (some ⟨g1, 0, none⟩)) ?_
     refine kV 24 (.pointer (some ⟨g1, 0, none⟩)) ?_
     refine kE M 25 g1 0 (.bool true) (fun w M => M.cell 0 rfl (by decide) (congrArg Value.bool c2)) ?_
     refine kC M 26 79 #[.bool true] (.agg (av 7 (ls [.int .u8 96, .int .i64 40, .int .i64 4, .int .i64 7, .int .i64 6, .int .i64 8, .int .i64 40]))) (fun w M => c_layT w M.laid) ?_
     refine kV 27 (.int .i64 40) ?_
     refine kV 28 (.int .i64 1460) ?_
     by_cases c4 : 1460 < (s.size : Int)
     ·skip
      refine kH 29 (.bool true) (dTz (1460 < (s.size : Int)) (c4)) ?_
      refine kl_nil fun u4 M => ?_
      replace M : Mem ⟨w, []⟩ [⟨g1, .cells (av 9 (ls [.bool (v0), .int .u64 h0, .int .u64 l0, .bool (v1), .int .u64 h1, .int .u64 l1, .int .u8 p, .int .u8 t, .string s])) 110⟩] u4 := M
      refine pV 19 (.bool true) ?_
      refine nT ?_
      refine wp_cond_true (by kernel_rfl) ?_
      refine sR ?_
      refine pV 2 (.int .i64 4) ?_
      refine nT ?_
      refine wp_ret ?_
      refine au_block_ret ?_
      refine au_then_ret ?_
      have e0 : (my v0 h0 l0 v1 h1 l1 (s.size : Int)) = 4 := by unfold my; rw [c0, c1, c2, c3]; show (if 1500 < (40 : Int) + (s.size : Int) then (4 : Int) else 0) = _; exact if_pos (by omega)
      exact bodyPost_ret (v := .int .i64 4) (results_tmp1 Try.results66 _ _ _ (by kernel_rfl)) (by kernel_rfl) ⟨by rw [e0], below_grown M.old⟩
     ·skip
      refine kH 29 (.bool false) (dF (1460 < (s.size : Int)) (c4)) ?_
      refine kl_nil fun u4 M => ?_
      replace M : Mem ⟨w, []⟩ [⟨g1, .cells (av 9 (ls [.bool (v0), .int .u64 h0, .int .u64 l0, .bool (v1), .int .u64 h1, .int .u64 l1, .int .u8 p, .int .u8 t, .string s])) 110⟩] u4 := M
      refine pV 19 (.bool false) ?_
      refine nT ?_
      refine wp_cond_false (by kernel_rfl) ?_
      refine wp_skip ?_
      refine au_block ?_
      refine au_then ?_
      refine sR ?_
      refine pV 2 (.int .i64 0) ?_
      refine nT ?_
      refine wp_ret ?_
      have e0 : (my v0 h0 l0 v1 h1 l1 (s.size : Int)) = 0 := by unfold my; rw [c0, c1, c2, c3]; show (if 1500 < (40 : Int) + (s.size : Int) then (4 : Int) else 0) = _; exact if_neg (by omega)
      exact bodyPost_ret (v := .int .i64 0) (results_tmp1 Try.results66 _ _ _ (by kernel_rfl)) (by kernel_rfl) ⟨by rw [e0], below_grown M.old⟩
    ·skip
     refine pEz M 17 g1 3 (.bool false) (fun w M => M.cell 0 rfl (by decide) (congrArg Value.bool c3)) ?_
     refine pV 18 (.bool true) ?_
     refine pV 3 (.bool true) ?_
     refine nT ?_
     refine wp_cond_true (by kernel_rfl) ?_
     refine sR ?_
     refine pV 2 (.int .i64 2) ?_
     refine nT ?_
     refine wp_ret ?_
     refine au_block_ret ?_
     refine au_then_ret ?_
     have e0 : (my v0 h0 l0 v1 h1 l1 (s.size : Int)) = 2 := by unfold my; rw [c0, c1, c2, c3] <;> rfl
     exact bodyPost_ret (v := .int .i64 2) (results_tmp1 Try.results66 _ _ _ (by kernel_rfl)) (by kernel_rfl) ⟨by rw [e0], below_grown M.old⟩
   ·skip
    refine pEz M 14 g1 0 (.bool false) (fun w M => M.cell 0 rfl (by decide) (congrArg Value.bool c2)) ?_
    refine pV 15 (.pointer (some ⟨g1, 3, none⟩)) ?_
    refine pV 16 (.pointer (some ⟨g1, 3, none⟩)) ?_
    rcases Bool.eq_false_or_eq_true (v1) with c3 | c3
    ·skip
     refine pEz M 17 g1 3 (.bool true) (fun w M => M.cell 0 rfl (by decide) (congrArg Value.bool c3)) ?_
     refine pV 18 (.bool true) ?_
     refine pV 3 (.bool true) ?_
     refine nT ?_
     refine wp_cond_true (by kernel_rfl) ?_
     refine sR ?_
     refine pV 2 (.int .i64 2) ?_
     refine nT ?_
     refine wp_ret ?_
     refine au_block_ret ?_
     refine au_then_ret ?_
     have e0 : (my v0 h0 l0 v1 h1 l1 (s.size : Int)) = 2 := by unfold my; rw [c0, c1, c2, c3] <;> rfl
     exact bodyPost_ret (v := .int .i64 2) (results_tmp1 Try.results66 _ _ _ (by kernel_rfl)) (by kernel_rfl) ⟨by rw [e0], below_grown M.old⟩
    ·skip
     refine pEz M 17 g1 3 (.bool false) (fun w M => M.cell 0 rfl (by decide) (congrArg Value.bool c3)) ?_
     refine pV 18 (.bool false) ?_
     refine pV 3 (.bool false) ?_
     refine nT ?_
     refine wp_cond_false (by kernel_rfl) ?_
     refine wp_seq ?_
     refine rg_tail M 10 (by kernel_rfl) (by kernel_rfl) ?_
     simp only [List.take_succ_cons, List.take_zero]
     refine kV 20 (.pointer (some ⟨g1, 8, none⟩)) ?_
     refine kE M 21 g1 8 (.string s) (fun w M => M.cell 0 rfl (by decide) rfl) ?_
     refine kV 22 (.int .i64 (s.size : Int)) ?_
     refine kV 23 (.pointer (some ⟨g1, 0, none⟩)) ?_
     refine kV 24 (.pointer (some ⟨g1, 0, none⟩)) ?_
     refine kE M 25 g1 0 (.bool false) (fun w M => M.cell 0 rfl (by decide) (congrArg Value.bool c2)) ?_
     refine kC M 26 79 #[.bool false] (.agg (av 7 (ls [.int .u8 69, .int .i64 20, .int .i64 2, .int .i64 8, .int .i64 9, .int .i64 12, .int .i64 0]))) (fun w M => c_layF w M.laid) ?_
     refine kV 27 (.int .i64 20) ?_
     refine kV 28 (.int .i64 1480) ?_
     by_cases c4 : 1480 < (s.size : Int)
     ·skip
      refine kH 29 (.bool true) (dTz (1480 < (s.size : Int)) (c4)) ?_
      refine kl_nil fun u4 M => ?_
      replace M : Mem ⟨w, []⟩ [⟨g1, .cells (av 9 (ls [.bool (v0), .int .u64 h0, .int .u64 l0, .bool (v1), .int .u64 h1, .int .u64 l1, .int .u8 p, .int .u8 t, .string s])) 110⟩] u4 := M
      refine pV 19 (.bool true) ?_
      refine nT ?_
      refine wp_cond_true (by kernel_rfl) ?_
      refine sR ?_
      refine pV 2 (.int .i64 4) ?_
      refine nT ?_
      refine wp_ret ?_
      refine au_block_ret ?_
      refine au_then_ret ?_
      have e0 : (my v0 h0 l0 v1 h1 l1 (s.size : Int)) = 4 := by unfold my; rw [c0, c1, c2, c3]; show (if 1500 < (20 : Int) + (s.size : Int) then (4 : Int) else 0) = _; exact if_pos (by omega)
      exact bodyPost_ret (v := .int .i64 4) (results_tmp1 Try.results66 _ _ _ (by kernel_rfl)) (by kernel_rfl) ⟨by rw [e0], below_grown M.old⟩
     ·skip
      refine kH 29 (.bool false) (dF (1480 < (s.size : Int)) (c4)) ?_
      refine kl_nil fun u4 M => ?_
      replace M : Mem ⟨w, []⟩ [⟨g1, .cells (av 9 (ls [.bool (v0), .int .u64 h0, .int .u64 l0, .bool (v1), .int .u64 h1, .int .u64 l1, .int .u8 p, .int .u8 t, .string s])) 110⟩] u4 := M
      refine pV 19 (.bool false) ?_
      refine nT ?_
      refine wp_cond_false (by kernel_rfl) ?_
      refine wp_skip ?_
      refine au_block ?_
      refine au_then ?_
      refine sR ?_
      refine pV 2 (.int .i64 0) ?_
      refine nT ?_
      refine wp_ret ?_
      have e0 : (my v0 h0 l0 v1 h1 l1 (s.size : Int)) = 0 := by unfold my; rw [c0, c1, c2, c3]; show (if 1500 < (20 : Int) + (s.size : Int) then (4 : Int) else 0) = _; exact if_neg (by omega)
      exact bodyPost_ret (v := .int .i64 0) (results_tmp1 Try.results66 _ _ _ (by kernel_rfl)) (by kernel_rfl) ⟨by rw [e0], below_grown M.old⟩
  ·skip
   refine pC M 10 78 #[.agg (av 3 (ls [.bool (v1), .int .u64 h1, .int .u64 l1]))] (.bool false) (fun w M => call_val (c_mayAddr v1 h1 l1 w M.laid) (congrArg Value.bool c1)) fun u3 M => ?_
   refine pV 11 (.bool true) ?_
   refine pV 3 (.bool true) ?_
   refine nT ?_
   refine wp_cond_true (by kernel_rfl) ?_
   refine wp_skip ?_
   refine au_then ?_
   refine wp_cond_true (by kernel_rfl) ?_
   refine sR ?_
   refine pV 2 (.int .i64 2) ?_
   refine nT ?_
   refine wp_ret ?_
   refine au_block_ret ?_
   refine au_then_ret ?_
   have e0 : (my v0 h0 l0 v1 h1 l1 (s.size : Int)) = 2 := by unfold my; rw [c0, c1] <;> rfl
   exact bodyPost_ret (v := .int .i64 2) (results_tmp1 Try.results66 _ _ _ (by kernel_rfl)) (by kernel_rfl) ⟨by rw [e0], below_grown M.old⟩
 ·skip
  refine pC M 6 78 #[.agg (av 3 (ls [.bool (v0), .int .u64 h0, .int .u64 l0]))] (.bool false) (fun w M => call_val (c_mayAddr v0 h0 l0 w M.laid) (congrArg Value.bool c0)) fun u2 M => ?_
  refine pV 7 (.bool true) ?_
  refine pV 3 (.bool true) ?_
  refine nT ?_
  refine wp_cond_true (by kernel_rfl) ?_
  refine wp_skip ?_
  refine au_then ?_
  refine wp_cond_true (by kernel_rfl) ?_
  refine sR ?_
  refine pV 2 (.int .i64 2) ?_
  refine nT ?_
  refine wp_ret ?_
  refine au_block_ret ?_
  refine au_then_ret ?_
  have e0 : (my v0 h0 l0 v1 h1 l1 (s.size : Int)) = 2 := by unfold my; rw [c0] <;> rfl
  exact bodyPost_ret (v := .int .i64 2) (results_tmp1 Try.results66 _ _ _ (by kernel_rfl)) (by kernel_rfl) ⟨by rw [e0], below_grown M.old⟩
end Go.Proofs.Ytbechjlkmajcoaa

namespace Go.Proofs.Ytbechjlkmajcoaa
open Go.RowKit
theorem u8_cv64 (s : ByteArray) (j : Nat) : cv .u64 (bt s j) = bt s j := by
 have := bt_nn s j
 rw [cv_u64]
 omega
theorem uo_ua (x b : Int) (h0 : 0 ≤ b) (h1 : b < 256) : uo (sl x 8) b = ua (sl x 8) b := by
 rw [sl_8]
 have hm : (x * 256) % 18446744073709551616 = 256 * (x % 72057594037927936) := by omega
 have hk0 : 0 ≤ x % 72057594037927936 := by omega
 have hk1 : x % 72057594037927936 < 72057594037927936 := by omega
 rw [hm]
 generalize x % 72057594037927936 = m at *
 obtain ⟨k, rfl⟩ := Int.eq_ofNat_of_zero_le hk0
 obtain ⟨c, rfl⟩ := Int.eq_ofNat_of_zero_le h0
 have e := Nat.two_pow_add_eq_or_of_lt (i := 8) (b := c) (by omega) k
 have e1 : BitVec.ofInt 64 (256 * (k : Int)) = BitVec.ofNat 64 (256 * k) := by
  have : (256 * (k : Int)) = ((256 * k : Nat) : Int) := by omega
  rw [this]
  rfl
 have e2 : BitVec.ofInt 64 (c : Int) = BitVec.ofNat 64 c := rfl
 unfold uo ua
 rw [e1, e2, BitVec.toNat_or, BitVec.toNat_ofNat, BitVec.toNat_ofNat, Nat.mod_eq_of_lt (by omega), Nat.mod_eq_of_lt (by omega)]
 have e3 : 256 * k ||| c = 256 * k + c := e.symm
 rw [e3]
 congr 1
theorem bn_bd (s : ByteArray) (j : Nat) : bn s j = bd s j := by
 induction j with
 | zero => rfl
 | succ j ih =>
  have := bt_nn s j
  unfold bn bd
  rw [ih, u8_cv64, uo_ua _ _ this.1 this.2]
theorem bnv_bdv (s : ByteArray) : bnv s = bdv s := bn_bd s _
theorem ipow_le {j k : Nat} (h : j ≤ k) : (256 : Int) ^ j ≤ 256 ^ k := by
 have h1 := Nat.pow_le_pow_right (n := 256) (by decide) h
 have e : ∀ m : Nat, (256 : Int) ^ m = ((256 ^ m : Nat) : Int) := fun m => by
  induction m with
  | zero => rfl
  | succ m ih => rw [Int.pow_succ, ih, Nat.pow_succ]; rfl
 rw [e, e]
 exact Int.ofNat_le.2 h1
theorem bd_lt (s : ByteArray) (j : Nat) (h : j ≤ 8) : 0 ≤ bd s j ∧ bd s j < 256 ^ j := by
 induction j with
 | zero => unfold bd; simp
 | succ j ih =>
  obtain ⟨i0, i1⟩ := ih (by omega)
  have hb := bt_nn s j
  have hp : (256 : Int) ^ j ≤ 256 ^ 7 := ipow_le (by omega)
  have hs : (256 : Int) ^ (j + 1) = 256 ^ j * 256 := Int.pow_succ _ _
  unfold bd
  rw [u8_cv64, ua_eq, sl_8, hs]
  generalize (256 : Int) ^ j = p at *
  omega
theorem bdv_lt (s : ByteArray) (k : Nat) (hk : k ≤ 8) (h : s.size ≤ k) : 0 ≤ bdv s ∧ bdv s < 256 ^ k := by
 have h1 := bd_lt s s.size (by omega)
 have hp : (256 : Int) ^ s.size ≤ 256 ^ k := ipow_le h
 unfold bdv
 omega
theorem tkF_ne (s : ByteArray) (f n : Int) (h : f ≠ 0) : tkF s f n = f := if_neg h
theorem tkS_ne (s : ByteArray) (f n : Int) (h : f ≠ 0) : tkS s f n = s := if_neg fun e => h e.1
theorem ext_left (a b : ByteArray) : (a ++ b).extract 0 a.size = a := by
 apply ByteArray.ext
 rw [ByteArray.data_extract, ByteArray.data_append]
 show (a.data ++ b.data).extract 0 a.data.size = a.data
 rw [Array.extract_append]
 simp
theorem ext_right (a b : ByteArray) : (a ++ b).extract a.size (a ++ b).size = b := by
 apply ByteArray.ext
 rw [ByteArray.data_extract, ByteArray.data_append, ByteArray.size_append]
 show (a.data ++ b.data).extract a.data.size (a.data.size + b.data.size) = b.data
 rw [Array.extract_append, Array.extract_empty_of_size_le_start (Nat.le_refl _), Array.empty_append, Nat.sub_self, Nat.add_sub_cancel_left]
 exact Array.extract_size
theorem bt_bs (l : List Int) (h : ∀ x ∈ l, 0 ≤ x ∧ x < 256) (i : Nat) : bt (bs l) i = l.getD i 0 := by rw [bt_of_sb, sb_bs l h]
theorem tk_app (a b : ByteArray) (n : Int) (hn : n = (a.size : Int)) : tkV (a ++ b) 0 n = a ∧ tkS (a ++ b) 0 n = b ∧ tkF (a ++ b) 0 n = 0 := by
 subst hn
 have hs := ByteArray.size_append (a := a) (b := b)
 have hc : (0 : Int) = 0 ∧ 0 ≤ (a.size : Int) ∧ (a.size : Int) ≤ ((a ++ b).size : Int) := by omega
 refine ⟨?_, ?_, ?_⟩
 ·unfold tkV
  rw [if_pos hc]
  exact ext_left a b
 ·unfold tkS
  rw [if_pos hc]
  exact ext_right a b
 ·unfold tkF
  rw [if_pos rfl, if_neg (by omega), if_neg (by omega)]
def hv (s : ByteArray) : Nat → Int
 | 0 => 0
 | j + 1 => hv s j * 256 + bt s j
theorem bd_hv (s : ByteArray) (j : Nat) (h : j ≤ 8) : bd s j = hv s j := by
 induction j with
 | zero => rfl
 | succ j ih =>
  have h1 := bd_lt s j (by omega)
  have hb := bt_nn s j
  have hp : (256 : Int) ^ j ≤ 256 ^ 7 := ipow_le (by omega)
  generalize (256 : Int) ^ j = p at *
  unfold bd hv
  rw [u8_cv64, ua_eq, sl_8, ← ih (by omega)]
  omega
theorem bnv_hv (s : ByteArray) (k : Nat) (hs : s.size = k) (h : k ≤ 8) : bnv s = hv s k := by
 rw [bnv_bdv]
 unfold bdv
 rw [hs]
 exact bd_hv s k h
theorem bnv_be8 (x : Int) (h0 : 0 ≤ x) (h1 : x < 18446744073709551616) : bnv (be8 x) = x := by
 rw [bnv_hv _ 8 (be8_size x) (by decide)]
 unfold be8
 simp only [hv]
 rw [bt_bs _ (by intro x hx; simp only [List.mem_cons, List.mem_nil_iff, or_false] at hx; rcases hx with rfl | rfl | rfl | rfl | rfl | rfl | rfl | rfl <;> exact cv8_nn _), bt_bs _ (by intro x hx; simp only [List.mem_cons, List.mem_nil_iff, or_false] at hx; rcases hx with rfl | rfl | rfl | rfl | rfl | rfl | rfl | rfl <;> exact cv8_nn _), bt_bs _ (by intro x hx; simp only [List.mem_cons, List.mem_nil_iff, or_false] at hx; rcases hx with rfl | rfl | rfl | rfl | rfl | rfl | rfl | rfl <;> exact cv8_nn _), bt_bs _ (by intro x hx; simp only [List.mem_cons, List.mem_nil_iff, or_false] at hx; rcases hx with rfl | rfl | rfl | rfl | rfl | rfl | rfl | rfl <;> exact cv8_nn _), bt_bs _ (by intro x hx; simp only [List.mem_cons, List.mem_nil_iff, or_false] at hx; rcases hx with rfl | rfl | rfl | rfl | rfl | rfl | rfl | rfl <;> exact cv8_nn _), bt_bs _ (by intro x hx; simp only [List.mem_cons, List.mem_nil_iff, or_false] at hx; rcases hx with rfl | rfl | rfl | rfl | rfl | rfl | rfl | rfl <;> exact cv8_nn _), bt_bs _ (by intro x hx; simp only [List.mem_cons, List.mem_nil_iff, or_false] at hx; rcases hx with rfl | rfl | rfl | rfl | rfl | rfl | rfl | rfl <;> exact cv8_nn _), bt_bs _ (by intro x hx; simp only [List.mem_cons, List.mem_nil_iff, or_false] at hx; rcases hx with rfl | rfl | rfl | rfl | rfl | rfl | rfl | rfl <;> exact cv8_nn _)]
 simp only [List.getD_cons_zero, List.getD_cons_succ, cv_u8, sr_8]
 omega
theorem bnv_be4 (x : Int) (h0 : 0 ≤ x) (h1 : x < 4294967296) : bnv (be4 x) = x := by
 rw [bnv_hv _ 4 (be4_size x) (by decide)]
 unfold be4
 simp only [hv]
 rw [bt_bs _ (by intro x hx; simp only [List.mem_cons, List.mem_nil_iff, or_false] at hx; rcases hx with rfl | rfl | rfl | rfl <;> exact cv8_nn _), bt_bs _ (by intro x hx; simp only [List.mem_cons, List.mem_nil_iff, or_false] at hx; rcases hx with rfl | rfl | rfl | rfl <;> exact cv8_nn _), bt_bs _ (by intro x hx; simp only [List.mem_cons, List.mem_nil_iff, or_false] at hx; rcases hx with rfl | rfl | rfl | rfl <;> exact cv8_nn _), bt_bs _ (by intro x hx; simp only [List.mem_cons, List.mem_nil_iff, or_false] at hx; rcases hx with rfl | rfl | rfl | rfl <;> exact cv8_nn _)]
 simp only [List.getD_cons_zero, List.getD_cons_succ, cv_u8, sr_8]
 omega
theorem bnv_be2 (x : Int) (h0 : 0 ≤ x) (h1 : x < 65536) : bnv (be2 x) = x := by
 rw [bnv_hv _ 2 (be2_size x) (by decide)]
 unfold be2
 simp only [hv]
 rw [bt_bs _ (by intro x hx; simp only [List.mem_cons, List.mem_nil_iff, or_false] at hx; rcases hx with rfl | rfl <;> exact cv8_nn _), bt_bs _ (by intro x hx; simp only [List.mem_cons, List.mem_nil_iff, or_false] at hx; rcases hx with rfl | rfl <;> exact cv8_nn _)]
 simp only [List.getD_cons_zero, List.getD_cons_succ, cv_u8, sr_8]
 omega
end Go.Proofs.Ytbechjlkmajcoaa
