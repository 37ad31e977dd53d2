/- Part 1 of the walks and facts. -/
import Derived.Test.YtffimigpbcilbaaGreatDoorCpDef
import Derived.BigQuiet
import Derived.Deep.AppendSrc
import Derived.Deep.LoopGhost
import Derived.Deep.MidRow
import Derived.Laws.AppendOwn
import Derived.Laws.Bits64
import Derived.Laws.BitsAllLaws
import Derived.Laws.BytesString
import Derived.Laws.IdiomStrings
import Derived.Laws.Rows
import Derived.LoopN
import Derived.OrdersHeld
import Derived.RegionTactic
import Derived.StillTail
import Derived.Test.YtffimigpbcilbaaGreatDoorRows
import Derived.WalkKit
import Derived.WalkLawsBesides
import Derived.WalkSpells
set_option maxHeartbeats 16000000
set_option maxRecDepth 100000
namespace Go.Proofs.YtffimigpbcilbaaGreatDoor
open Go.RowKit
section
variable {P : Program} {ops : Array Oper} {md : Region.Mode} {C : World → Prop}
def HeadQ (P : Program) (md : Region.Mode) (ops : Array Oper) (C : World → Prop) (n : Nat) (L : Array Bool → Act → Prop) : Nat → Array Bool → Act → Prop
 | 0, done, a => L done a
 | f + 1, done, a => Region.ready md ops done ≠ [] ∧ ∀ i ∈ Region.ready md ops done, i < n ∧ qOp P ops C i (HeadQ P md ops C n L f (done.setIfInBounds i true)) a
theorem HeadQ.any {n g : Nat} {L : Array Bool → Act → Prop} {Q : Exit → Act → World → Prop} (hL : ∀ done a w, C w → L done a → wpAny P md ops Q g done a w) :
  ∀ (f : Nat) (done : Array Bool) (a : Act) (w : World), C w → HeadQ P md ops C n L f done a → wpAny P md ops Q (f + g) done a w := by
 intro f
 induction f with
 | zero =>
  intro done a w hw h
  rw [Nat.zero_add]
  exact hL done a w hw h
 | succ f ih =>
  intro done a w hw h
  have e : f + 1 + g = (f + g) + 1 := by omega
  rw [e]
  exact ⟨fun h0 => absurd h0 h.1, fun i hi => wpOp_of_qOp hw (fun a' w' hw' h' => ih _ a' w' hw' h') (h.2 i hi).2⟩
theorem HeadQ.first {n i : Nat} {oi : Oper} {v : Value} {L : Array Bool → Act → Prop} (hi : ops[i]? = some oi) (hsel : ∀ (j : Nat) (o : Oper) cs b, ops[j]? = some o → o.op ≠ .select cs b)
  (hs : Region.sinkB md ops n = true) (hc : Region.chainB md ops n = true) (hn : n < ops.size) (hin : i < n) (hend : ∀ done a, L done a → ∀ j ∈ Region.ready md ops done, n ≤ j) :
  ∀ (f : Nat) (done : Array Bool) (a : Act), HeadInv md ops n done →
   (∀ j oj, ops[j]? = some oj → j ≠ i → done.getD j true = false → (∀ e ∈ oj.after, Region.binds md e = true → e.on ≠ i) → oi.apart ops oj = true) →
   i ∈ Region.ready md ops done → YieldsIn P ops C oi v a → HeadQ P md ops C n L f (done.setIfInBounds i true) (a.put oi.dst v) → HeadQ P md ops C n L (f + 1) done a := by
 intro f
 induction f with
 | zero =>
  intro done a inv _ hr hy H
  refine ⟨fun h => (by rw [h] at hr; cases hr), fun j hj => ?_⟩
  have hjn : j < n := Nat.lt_of_not_le fun h => tail_waits hs hc hn inv _ i rfl hin (mem_ready.1 hr).1 j h hj
  refine ⟨hjn, ?_⟩
  by_cases hji : j = i
  ·subst hji
   exact hy.qOp hi H
  ·have := hend _ _ H j (ready_mono hj hji)
   omega
 | succ f ih =>
  intro done a inv hfree hr hy H
  have hun := (mem_ready.1 hr).1
  refine ⟨fun h => (by rw [h] at hr; cases hr), fun j hj => ?_⟩
  have hjn : j < n := Nat.lt_of_not_le fun h => tail_waits hs hc hn inv _ i rfl hin hun j h hj
  refine ⟨hjn, ?_⟩
  by_cases hji : j = i
  ·subst hji
   exact hy.qOp hi H
  ·obtain ⟨hjun, oj, hoj, hall⟩ := mem_ready.1 hj
   have hno : ∀ e ∈ oj.after, Region.binds md e = true → e.on ≠ i := by
    intro e he hb heq
    have h1 := hall e he hb
    rw [heq, getD_both hun] at h1
    cases h1
   have h2 := qOp_put hoj (hfree j oj hoj hji hjun hno) (fun cs b => hsel i oi cs b hi) (fun cs b => hsel j oj cs b hoj) hy (H.2 j (ready_mono hj hji)).2
   refine qOp_mono (fun a' h3 => ih (done.setIfInBounds j true) a' (inv.set hj hjn) ?_ (ready_mono hr (Ne.symm hji)) h3.1 ?_) h2
   ·intro k ok hk hki hku hkn
    refine hfree k ok hk hki ?_ hkn
    by_cases hjk : j = k
    ·subst hjk
     exact hjun
    ·rw [getD_set_ne true hjk] at hku
     exact hku
   ·rw [Array.setIfInBounds_comm _ _ hji]
    exact h3.2
theorem HeadQ.lex {n g : Nat} {K : Act → Prop} (hsel : Region.noSelect ops = true) (hs : Region.sinkB md ops n = true) (hc : Region.chainB md ops n = true) (hn : n < ops.size) (l : List Oper) :
  ∀ (k : Nat) (done : Array Bool) (a : Act), (∀ j, j < l.length → l[j]? = ops[k + j]?) → k + l.length = n → HeadInv md ops n done →
  Region.lexHead md ops g l.length k done = true → wpQuiet P ops C K l a → HeadQ P md ops C n (fun d a' => Region.seqB md ops g n d = true ∧ K a') l.length done a := by
 induction l with
 | nil =>
  intro k done a _ hk _ hB h
  have e : k = n := by simpa using hk
  subst e
  exact ⟨by simpa [Region.lexHead] using hB, h⟩
 | cons o l ih =>
  intro k done a hl hk inv hB h
  have h0 : ops[k]? = some o := by simpa using (hl 0 (by simp)).symm
  simp only [List.length_cons, Region.lexHead, Bool.and_eq_true] at hB
  simp only [List.length_cons] at hk
  have hr : k ∈ Region.ready md ops done := by simpa using hB.1.1
  have hq : qOp P ops C k (wpQuiet P ops C K l) a := by
   unfold qOp
   simp only [h0]
   exact h
  obtain ⟨v, hy, hK⟩ := yieldsIn_of_qOp h0 hq
  refine HeadQ.first h0 (Region.noSelect_spec hsel) hs hc hn (by omega) (fun d a' hL => seqB_ready hL.1) l.length done a inv (Region.free_spec h0 hB.1.2) hr hy ?_
  refine ih (k + 1) _ _ (fun j hj => ?_) (by omega) (inv.set hr (by omega)) hB.2 hK
  have := hl (j + 1) (by simp; omega)
  simpa [Nat.add_assoc, Nat.add_comm 1 j] using this
theorem wp_region_quiet_tail {id : Nat} {Q : Exit → Act → World → Prop} {a : Act} {w : World} {l : List Oper} (n : Nat) (hm : P.follows .mixedOrders = true) (hB : Region.lexTailB .any l.toArray n = true) (hC : C { w with drawn := w.drawn + 1 })
  (h : wpQuiet P l.toArray C (fun a' => ∀ w', C w' → wpList P l.toArray Q (l.drop n) a' w') (l.take n) a) : (Code.region id l.toArray true).wp P Q a w := by
 simp only [Region.lexTailB, Bool.and_eq_true, decide_eq_true_eq] at hB
 obtain ⟨⟨⟨⟨hsel, hn⟩, hs⟩, hc⟩, hlex⟩ := hB
 have hn' : n < l.length := by simpa using hn
 have htl : (l.take n).length = n := by simp; omega
 have hdl : (l.drop n).length = l.toArray.size - n := by simp
 have inv : HeadInv .any l.toArray n (Array.replicate l.toArray.size false) :=
  ⟨by simp, fun j oj _ hl => (by rw [getD_replicate_false] at hl; cases hl), fun t _ ht => getD_in (by simpa using ht) (getD_replicate_false _ _)⟩
 have H := HeadQ.lex (md := .any) (g := l.toArray.size - n) hsel hs hc hn (l.take n) 0 _ a (fun j hj => by rw [htl] at hj; simp [hj]) (by simpa using htl) inv (by rw [htl]; exact hlex) h
 refine wp_region_any hm ?_
 have H2 := HeadQ.any (Q := Q) (g := l.toArray.size - n) (fun done a' w' hw' hL => by
  have := wpAny_of_seq (md := .any) (Q' := Q) (l.drop n) n done a' w' (fun j => by simp [List.getElem?_drop]) (by rw [hdl]; exact hL.1) (hL.2 w' hw')
  rwa [hdl] at this) _ _ _ _ hC H
 rw [htl, show n + (l.toArray.size - n) = l.toArray.size by omega] at H2
 exact H2
structure KW (W : World) where
 w : World
 keep : Below W.heap.size W w
def KW.next {W : World} (s : KW W) (w' : World) (h : Below s.w.heap.size s.w w') : KW W := ⟨w', s.keep.trans (h.mono s.keep.size)⟩
theorem KW.drew (W : World) : ∃ s : KW W, ({ W with drawn := W.drawn + 1 } : World) = s.w := ⟨⟨W.drew, (Below.refl _ _).drew⟩, rfl⟩
theorem keep_of {W : World} {s : KW W} {f : FuncId} {args : Array Value} {v : Value}
  (h : Calls P f args s.w fun e w' => e = .returned v ∧ Below s.w.heap.size s.w w') : Calls P f args s.w fun e w'' => e = .returned v ∧ ∃ t : KW W, w'' = t.w :=
 h.mono fun _ w' ⟨he, hb⟩ => ⟨he, s.next w' hb, rfl⟩
theorem wp_region_keep_tail {id : Nat} {Q : Exit → Act → World → Prop} {a : Act} {w : World} {l : List Oper} (n : Nat) (hm : P.follows .mixedOrders = true) (hB : Region.lexTailB .any l.toArray n = true)
  (h : wpQuiet P l.toArray (fun w' => ∃ s : KW w, w' = s.w) (fun a' => ∀ s : KW w, wpList P l.toArray Q (l.drop n) a' s.w) (l.take n) a) : (Code.region id l.toArray true).wp P Q a w := by
 refine wp_region_quiet_tail (C := fun w' => ∃ s : KW w, w' = s.w) n hm hB (KW.drew w) ?_
 have e : (fun a' => ∀ w', (∃ s : KW w, w' = s.w) → wpList P l.toArray Q (l.drop n) a' w') = fun a' => ∀ s : KW w, wpList P l.toArray Q (l.drop n) a' s.w := by
  funext a'
  exact propext ⟨fun h s => h _ ⟨s, rfl⟩, fun h w' ⟨s, hs⟩ => hs ▸ h s⟩
 rw [e]
 exact h
theorem quiet_load_row {o : Oper} {a : Act} {K : Act → Prop} (ty : TypeId) (x : Operand) (ho : o.op = .load ty x) (g : Nat) (hx : a.eval x = .pointer (some ⟨g, 0, none⟩)) (t : TypeId) (cs : Array Value) (fr : Nat × Nat) (d : TypeDesc)
  (hg : ∀ w, C w → w.heap[g]? = some (.cells cs t fr)) (hu : P.underlying ty = some d) (hd : (match d with | .struct _ | .array _ _ => true | _ => false) = true) (hi : (P.info? ty).map (·.size) = some cs.size)
  (hk : K (a.put o.dst (.agg cs))) : o.quiet P a C K := by
 refine ⟨.agg cs, fun w hw => ?_, hk⟩
 unfold Oper.quietAt execOp
 simp only [ho, hx, Instr.loadAt, Instr.sureAddr, Sem.run_bind, Sem.run_pure, Result.andThen_ok, run_loadVar_row w g t ty cs fr d (hg w hw) hu hd hi]
 exact ⟨rfl, rfl⟩
end
open Go.RowKit
section
variable {P : Program} {ops : Array Oper} {md : Region.Mode} {W : World} {n : Nat}
def keepUpon (P : Program) (w : World) (v : Value) : Result Next → Prop
 | .ok (.value u) w' => w' = w ∧ u = v
 | .ok .skip w' => w' = w ∧ v = undef
 | .ok (.enter f args) w' => w' = w ∧ Calls P f args w (fun e w'' => e = .returned v ∧ Below w.heap.size w w'')
 | _ => False
def keepAt (P : Program) (o : Oper) (a : Act) (w : World) (v : Value) : Prop := keepUpon P w v ((execOp a.eval o).run P w)
def keepOp (P : Program) (o : Oper) (a : Act) (W : World) (K : Act → Prop) : Prop := ∃ v, (∀ s : KW W, keepAt P o a s.w v) ∧ K (a.put o.dst v)
def wpK (P : Program) (ops : Array Oper) (W : World) (Q : Act → Prop) : List Oper → Act → Prop
 | [], a => Q a
 | o :: rest, a => if Region.wanted o (yielded ops a.tmps) then keepOp P o a W (wpK P ops W Q rest) else wpK P ops W Q rest (a.put o.dst undef)
def YK (P : Program) (ops : Array Oper) (W : World) (o : Oper) (v : Value) (a : Act) : Prop :=
 (Region.wanted o (yielded ops a.tmps) = true ∧ ∀ s : KW W, keepAt P o a s.w v) ∨ (Region.wanted o (yielded ops a.tmps) = false ∧ v = undef)
def kOp (P : Program) (ops : Array Oper) (W : World) (i : Nat) (K : Act → Prop) (a : Act) : Prop := ∃ o v, ops[i]? = some o ∧ YK P ops W o v a ∧ K (a.put o.dst v)
theorem YK.same {o : Oper} {v : Value} {a a' : Act} (hy : YK P ops W o v a) (he : execOp a'.eval o = execOp a.eval o) (hw : Region.wanted o (yielded ops a'.tmps) = Region.wanted o (yielded ops a.tmps)) : YK P ops W o v a' := by
 unfold YK keepAt at *
 rw [he, hw]
 exact hy
theorem wpK_yields {Q : Act → Prop} {a : Act} {o : Oper} {rest : List Oper} (h : wpK P ops W Q (o :: rest) a) : ∃ v, YK P ops W o v a ∧ wpK P ops W Q rest (a.put o.dst v) := by
 unfold wpK at h
 by_cases hw : Region.wanted o (yielded ops a.tmps) = true
 ·rw [if_pos hw] at h
  obtain ⟨v, h1, h2⟩ := h
  exact ⟨v, .inl ⟨hw, h1⟩, h2⟩
 ·rw [if_neg hw] at h
  exact ⟨undef, .inr ⟨by simpa using hw, rfl⟩, h⟩
def lexA (md : Region.Mode) (ops : Array Oper) (g n : Nat) : Nat → Nat → Array Bool → Bool
 | 0, _, done => decide (Region.ready md ops done = [n]) && Region.seqB md ops g (n + 1) (done.setIfInBounds n true)
 | f + 1, k, done => (Region.ready md ops done).contains k && Region.free md ops done k && lexA md ops g n f (k + 1) (done.setIfInBounds k true)
def freeN (md : Region.Mode) (ops : Array Oper) (n : Nat) : Bool :=
 (List.range n).all fun i => !Region.waitsFor md ops i n && (match ops[i]?, ops[n]? with | some o, some m => o.apart ops m | _, _ => false)
def lexAllocB (md : Region.Mode) (ops : Array Oper) (n : Nat) : Bool :=
 Region.noSelect ops && decide (n + 1 < ops.size) && Region.sinkB md ops (n + 1) && Region.chainB md ops (n + 1) && freeN md ops n && lexA md ops (ops.size - (n + 1)) n n 0 (Array.replicate ops.size false)
theorem waits_of {i j : Nat} {o : Oper} (ho : ops[i]? = some o) (h : Region.waitsFor md ops i j = false) : ∀ e ∈ o.after, Region.binds md e = true → e.on ≠ j := by
 intro e he hb heq
 unfold Region.waitsFor at h
 simp only [ho] at h
 have : (o.after.any fun e => Region.binds md e && e.on == j) = true := Array.any_eq_true'.2 ⟨e, he, by simp [hb, heq]⟩
 rw [this] at h
 cases h
end
open Go.RowKit
section
variable {P : Program} {ops : Array Oper} {md : Region.Mode} {W : World} {n m : Nat}
def HeadM (P : Program) (md : Region.Mode) (ops : Array Oper) (W : World) (n m : Nat) (L : Array Bool → Act → Prop) : Nat → Array Bool → Act → Prop
 | 0, done, a => L done a
 | f + 1, done, a => (∃ i, i < n ∧ i ∈ Region.ready md ops done) ∧ ∀ i ∈ Region.ready md ops done, (n ≤ i ∧ i < m) ∨ (i < n ∧ kOp P ops W i (HeadM P md ops W n m L f (done.setIfInBounds i true)) a)
theorem HeadM.first {i : Nat} {oi : Oper} {v : Value} {L : Array Bool → Act → Prop} (hi : ops[i]? = some oi) (hsel : ∀ (j : Nat) (o : Oper) cs b, ops[j]? = some o → o.op ≠ .select cs b)
  (hs : Region.sinkB md ops m = true) (hc : Region.chainB md ops m = true) (hn : m < ops.size) (hnm : n ≤ m) (hin : i < n) (hend : ∀ done a, L done a → ∀ j ∈ Region.ready md ops done, n ≤ j ∧ j < m) :
  ∀ (f : Nat) (done : Array Bool) (a : Act), HeadInv md ops m done →
   (∀ j oj, ops[j]? = some oj → j ≠ i → done.getD j true = false → (∀ e ∈ oj.after, Region.binds md e = true → e.on ≠ i) → oi.apart ops oj = true) →
   i ∈ Region.ready md ops done → YK P ops W oi v a → HeadM P md ops W n m L f (done.setIfInBounds i true) (a.put oi.dst v) → HeadM P md ops W n m L (f + 1) done a := by
 intro f
 induction f with
 | zero =>
  intro done a inv _ hr hy H
  refine ⟨⟨i, hin, hr⟩, fun j hj => ?_⟩
  by_cases hji : j = i
  ·subst hji
   exact .inr ⟨hin, oi, v, hi, hy, H⟩
  ·exact .inl (hend _ _ H j (ready_mono hj hji))
 | succ f ih =>
  intro done a inv hfree hr hy H
  have hun := (mem_ready.1 hr).1
  refine ⟨⟨i, hin, hr⟩, fun j hj => ?_⟩
  have hjn : j < m := Nat.lt_of_not_le fun h => tail_waits hs hc hn inv _ i rfl (by omega) hun j h hj
  by_cases hji : j = i
  ·subst hji
   exact .inr ⟨hin, oi, v, hi, hy, H⟩
  ·rcases H.2 j (ready_mono hj hji) with h0 | ⟨hjlt, oj, u, hoj, hyj, hK⟩
   ·exact .inl h0
   ·obtain ⟨hjun, oj', hoj', hall⟩ := mem_ready.1 hj
    have e : oj' = oj := Option.some.inj (hoj'.symm.trans hoj)
    subst e
    have hno : ∀ e ∈ oj'.after, Region.binds md e = true → e.on ≠ i := by
     intro e he hb heq
     have h1 := hall e he hb
     rw [heq, getD_both hun] at h1
     cases h1
    obtain ⟨h1, h2, h3⟩ := Oper.apart_spec (hfree j oj' hoj hji hjun hno)
    have hyj' : YK P ops W oj' u a := hyj.same (execOp_put oj' (fun cs b => hsel j oj' cs b hoj) a oi.dst v h1).symm (wanted_put oj' a oi.dst v h1).symm
    have hyi' : YK P ops W oi v (a.put oj'.dst u) := hy.same (execOp_put oi (fun cs b => hsel i oi cs b hi) a oj'.dst u h3) (wanted_put oi a oj'.dst u h3)
    refine .inr ⟨hjlt, oj', u, hoj, hyj', ih (done.setIfInBounds j true) _ (inv.set hj hjn) ?_ (ready_mono hr (Ne.symm hji)) hyi' ?_⟩
    ·intro k ok hk hki hku hkn
     refine hfree k ok hk hki ?_ hkn
     by_cases hjk : j = k
     ·subst hjk
      exact hjun
     ·rw [getD_set_ne true hjk] at hku
      exact hku
    ·rw [Array.setIfInBounds_comm _ _ hji, ← Act.put_comm a v u h2]
     exact hK
def setR (n m : Nat) (done : Array Bool) : Array Bool := (List.range' n (m - n)).foldl (fun d i => d.setIfInBounds i true) done
def lexM (md : Region.Mode) (ops : Array Oper) (g n m : Nat) : Nat → Nat → Array Bool → Bool
 | 0, _, done => decide (Region.ready md ops done = List.range' n (m - n)) && Region.seqB md ops g m (setR n m done)
 | f + 1, k, done => (Region.ready md ops done).contains k && Region.free md ops done k && lexM md ops g n m f (k + 1) (done.setIfInBounds k true)
def freeM (md : Region.Mode) (ops : Array Oper) (n m : Nat) : Bool :=
 (List.range m).all fun i => (List.range' n (m - n)).all fun j => decide (i = j) || (!Region.waitsFor md ops i j && (match ops[i]?, ops[j]? with | some o, some p => o.apart ops p | _, _ => false))
def lexAllocsB (md : Region.Mode) (ops : Array Oper) (n m : Nat) : Bool :=
 Region.noSelect ops && decide (m < ops.size) && decide (n ≤ m) && Region.sinkB md ops m && Region.chainB md ops m && freeM md ops n m && lexM md ops (ops.size - m) n m n 0 (Array.replicate ops.size false)
theorem HeadM.lex {g : Nat} {K : Act → Prop} (hsel : Region.noSelect ops = true) (hs : Region.sinkB md ops m = true) (hc : Region.chainB md ops m = true) (hn : m < ops.size) (hnm : n ≤ m) (l : List Oper) :
  ∀ (k : Nat) (done : Array Bool) (a : Act), (∀ j, j < l.length → l[j]? = ops[k + j]?) → k + l.length = n → HeadInv md ops m done →
  lexM md ops g n m l.length k done = true → wpK P ops W K l a → HeadM P md ops W n m (fun d a' => (Region.ready md ops d = List.range' n (m - n) ∧ Region.seqB md ops g m (setR n m d) = true) ∧ K a') l.length done a := by
 induction l with
 | nil =>
  intro k done a _ hk _ hB h
  simp only [List.length_nil, lexM, Bool.and_eq_true, decide_eq_true_eq] at hB
  exact ⟨hB, h⟩
 | cons o l ih =>
  intro k done a hl hk inv hB h
  have h0 : ops[k]? = some o := by simpa using (hl 0 (by simp)).symm
  simp only [List.length_cons, lexM, Bool.and_eq_true] at hB
  simp only [List.length_cons] at hk
  have hr : k ∈ Region.ready md ops done := by simpa using hB.1.1
  obtain ⟨v, hy, hK⟩ := wpK_yields h
  refine HeadM.first h0 (Region.noSelect_spec hsel) hs hc hn hnm (by omega) (fun d a' hL j hj => ?_) l.length done a inv (Region.free_spec h0 hB.1.2) hr hy ?_
  ·rw [hL.1.1, List.mem_range'_1] at hj
   omega
  ·refine ih (k + 1) _ _ (fun j hj => ?_) (by omega) (inv.set hr (by omega)) hB.2 hK
   have := hl (j + 1) (by simp; omega)
   simpa [Nat.add_assoc, Nat.add_comm 1 j] using this
def doneE (E : List (Nat × Nat)) (done : Array Bool) : Array Bool := E.foldl (fun d p => d.setIfInBounds p.1 true) done
def putE (ds : Nat → Option Tmp) (vs : Nat → Nat → Value) (E : List (Nat × Nat)) (a : Act) : Act := E.foldl (fun a p => a.put (ds p.1) (vs p.1 p.2)) a
theorem doneE_snoc (E : List (Nat × Nat)) (i g : Nat) (done : Array Bool) : doneE (E ++ [(i, g)]) done = (doneE E done).setIfInBounds i true := by
 simp [doneE, List.foldl_append]
theorem putE_snoc (ds : Nat → Option Tmp) (vs : Nat → Nat → Value) (E : List (Nat × Nat)) (i g : Nat) (a : Act) : putE ds vs (E ++ [(i, g)]) a = (putE ds vs E a).put (ds i) (vs i g) := by
 simp [putE, List.foldl_append]
theorem doneE_getD (E : List (Nat × Nat)) (k : Nat) (b : Bool) (h : ∀ p ∈ E, p.1 ≠ k) : ∀ done, (doneE E done).getD k b = done.getD k b := by
 induction E with
 | nil => intro done; rfl
 | cons p E ih =>
  intro done
  show (doneE E (done.setIfInBounds p.1 true)).getD k b = _
  rw [ih (fun q hq => h q (List.mem_cons_of_mem _ hq)), getD_set_ne b (h p List.mem_cons_self)]
theorem doneE_set (E : List (Nat × Nat)) (i : Nat) (h : ∀ p ∈ E, p.1 ≠ i) : ∀ done, (doneE E done).setIfInBounds i true = doneE E (done.setIfInBounds i true) := by
 induction E with
 | nil => intro done; rfl
 | cons p E ih =>
  intro done
  show (doneE E (done.setIfInBounds p.1 true)).setIfInBounds i true = doneE E ((done.setIfInBounds i true).setIfInBounds p.1 true)
  rw [ih (fun q hq => h q (List.mem_cons_of_mem _ hq)), Array.setIfInBounds_comm _ _ (h p List.mem_cons_self)]
theorem putE_put (ds : Nat → Option Tmp) (vs : Nat → Nat → Value) (E : List (Nat × Nat)) (d : Option Tmp) (v : Value) (h : ∀ p ∈ E, ∀ t, d = some t → ds p.1 ≠ some t) : ∀ a, (putE ds vs E a).put d v = putE ds vs E (a.put d v) := by
 induction E with
 | nil => intro a; rfl
 | cons p E ih =>
  intro a
  show (putE ds vs E (a.put (ds p.1) (vs p.1 p.2))).put d v = putE ds vs E ((a.put d v).put (ds p.1) (vs p.1 p.2))
  rw [ih (fun q hq => h q (List.mem_cons_of_mem _ hq)), Act.put_comm a v (vs p.1 p.2) (h p List.mem_cons_self)]
theorem ready_doneE (E : List (Nat × Nat)) (j : Nat) (h : ∀ p ∈ E, p.1 ≠ j) : ∀ done, j ∈ Region.ready md ops done → j ∈ Region.ready md ops (doneE E done) := by
 induction E with
 | nil => intro done hj; exact hj
 | cons p E ih =>
  intro done hj
  exact ih (fun q hq => h q (List.mem_cons_of_mem _ hq)) _ (ready_mono hj (Ne.symm (h p List.mem_cons_self)))
theorem doneE_true (E : List (Nat × Nat)) : ∀ (done : Array Bool), (∀ p ∈ E, p.1 < done.size) → ∀ p ∈ E, (doneE E done).getD p.1 true = true := by
 induction E with
 | nil => intro done _ p hp; cases hp
 | cons q E ih =>
  intro done hsz p hp
  show (doneE E (done.setIfInBounds q.1 true)).getD p.1 true = true
  by_cases hin : p ∈ E
  ·exact ih _ (fun r hr => by simpa using hsz r (List.mem_cons_of_mem _ hr)) p hin
  ·have hpq : p = q := by
    rcases List.mem_cons.1 hp with h | h
    ·exact h
    ·exact absurd h hin
   subst hpq
   by_cases hex : ∃ r ∈ E, r.1 = p.1
   ·obtain ⟨r, hr, he⟩ := hex
    have := ih (done.setIfInBounds p.1 true) (fun r hr => by simpa using hsz r (List.mem_cons_of_mem _ hr)) r hr
    rwa [he] at this
   ·rw [doneE_getD E p.1 true (fun r hr he => hex ⟨r, hr, he⟩)]
    have := hsz p List.mem_cons_self
    simp [this]
structure KE (W : World) (Zs : Nat → Obj) (E : List (Nat × Nat)) (w : World) : Prop where
 keep : Below W.heap.size W w
 lt : ∀ p ∈ E, p.2 < w.heap.size
 at_ : ∀ p ∈ E, w.heap[p.2]? = some (Zs p.1)
 ge : ∀ p ∈ E, W.heap.size ≤ p.2
 nodup : (E.map Prod.snd).Nodup
theorem KE.next {Zs : Nat → Obj} {E : List (Nat × Nat)} {w w' : World} (h : KE W Zs E w) (hb : Below w.heap.size w w') : KE W Zs E w' where
 keep := h.keep.trans (hb.mono h.keep.size)
 lt := fun p hp => Nat.lt_of_lt_of_le (h.lt p hp) hb.size
 at_ := fun p hp => by rw [hb.block _ (h.lt p hp)]; exact h.at_ p hp
 ge := h.ge
 nodup := h.nodup
theorem KE.more {Zs : Nat → Obj} {E : List (Nat × Nat)} {w : World} (h : KE W Zs E w) (i : Nat) : KE W Zs (E ++ [(i, w.heap.size)]) (w.alloc (Zs i)) := by
 have hb : Below w.heap.size w (w.alloc (Zs i)) := (Below.refl _ _).alloc (Nat.le_refl _) _
 have h' := h.next hb
 refine ⟨h'.keep, fun p hp => ?_, fun p hp => ?_, fun p hp => ?_, ?_⟩
 ·rcases List.mem_append.1 hp with hp | hp
  ·exact h'.lt p hp
  ·rw [List.mem_singleton.1 hp]
   simp
 ·rcases List.mem_append.1 hp with hp | hp
  ·exact h'.at_ p hp
  ·rw [List.mem_singleton.1 hp]
   exact heap_alloc_new w _
 ·rcases List.mem_append.1 hp with hp | hp
  ·exact h.ge p hp
  ·rw [List.mem_singleton.1 hp]
   exact h.keep.size
 ·rw [List.map_append, List.nodup_append]
  refine ⟨h.nodup, by simp, fun a ha b hb e => ?_⟩
  simp only [List.map_cons, List.map_nil, List.mem_singleton] at hb
  obtain ⟨p, hp, hpe⟩ := List.mem_map.1 ha
  have := h.lt p hp
  omega
theorem HeadM.any {g : Nat} {L : Array Bool → Act → Prop} {Q : Exit → Act → World → Prop} {ds : Nat → Option Tmp} {vs : Nat → Nat → Value} {Zs : Nat → Obj}
  (hsel : Region.noSelect ops = true) (hs : Region.sinkB md ops m = true) (hc : Region.chainB md ops m = true) (hn : m < ops.size) (hnm : n ≤ m) (hfr : freeM md ops n m = true)
  (hA : ∀ j, n ≤ j → j < m → ∃ o, ops[j]? = some o ∧ o.dst = ds j ∧ o.guard = none ∧ ∀ a w, (execOp (Act.eval a) o).run P w = .ok (.value (vs j w.heap.size)) (w.alloc (Zs j)))
  (hend : ∀ done a, L done a → Region.ready md ops done = List.range' n (m - n))
  (hL : ∀ done a, L done a → ∀ E w, (E.map Prod.fst).Nodup → (∀ p ∈ E, n ≤ p.1 ∧ p.1 < m) → E.length = m - n → KE W Zs E w → wpAny P md ops Q g (doneE E done) (putE ds vs E a) w) :
  ∀ (N f : Nat) (E : List (Nat × Nat)) (done : Array Bool) (a : Act) (w : World), N + E.length = f + (m - n) → (E.map Prod.fst).Nodup → (∀ p ∈ E, n ≤ p.1 ∧ p.1 < m) → E.length ≤ m - n → done.size = ops.size → HeadInv md ops m (doneE E done) →
   HeadM P md ops W n m L f done a → KE W Zs E w → wpAny P md ops Q (N + g) (doneE E done) (putE ds vs E a) w := by
 have hap : ∀ (i j : Nat), i < m → n ≤ j → j < m → i ≠ j → Region.waitsFor md ops i j = false ∧ ∀ o p, ops[i]? = some o → ops[j]? = some p → o.apart ops p = true := by
  intro i j hi hj1 hj2 hij
  have h1 := List.all_eq_true.1 hfr i (List.mem_range.2 hi)
  have h2 := List.all_eq_true.1 h1 j (List.mem_range'_1.2 ⟨hj1, by omega⟩)
  simp only [Bool.or_eq_true, decide_eq_true_eq, Bool.and_eq_true, Bool.not_eq_true'] at h2
  rcases h2 with h2 | h2
  ·exact absurd h2 hij
  ·refine ⟨h2.1, fun o p ho hp => ?_⟩
   have h3 := h2.2
   rw [ho, hp] at h3
   exact h3
 intro N
 induction N with
 | zero =>
  intro f E done a w hN hnd hin hlen hsz inv hH hK
  have hf : f = 0 := by omega
  subst hf
  rw [Nat.zero_add]
  exact hL done a hH E w hnd hin (by omega) hK
 | succ N ih =>
  intro f E done a w hN hnd hin hlen hsz inv hH hK
  rw [show N + 1 + g = (N + g) + 1 by omega]
  -- something below m comes up
  have hsome : ∃ i, i < m ∧ i ∈ Region.ready md ops (doneE E done) := by
   cases f with
   | succ f =>
    obtain ⟨⟨i, hi, hr⟩, _⟩ := hH
    exact ⟨i, by omega, ready_doneE E i (fun p hp he => by have := (hin p hp).1; omega) done hr⟩
   | zero =>
    have hr := hend done a hH
    have hex : ∃ j, n ≤ j ∧ j < m ∧ ∀ p ∈ E, p.1 ≠ j := by
     refine Classical.byContradiction fun hno => ?_
     have hall : ∀ j, n ≤ j → j < m → j ∈ E.map Prod.fst := by
      intro j h1 h2
      refine Classical.byContradiction fun hj => hno ⟨j, h1, h2, fun p hp he => hj (List.mem_map.2 ⟨p, hp, he⟩)⟩
     have hsub : List.range' n (m - n) ⊆ E.map Prod.fst := fun j hj => by
      rw [List.mem_range'_1] at hj
      exact hall j hj.1 (by omega)
     have hle := (List.nodup_range' (s := n) (n := m - n)).length_le_of_subset hsub
     simp at hle
     omega
    obtain ⟨j, h1, h2, h3⟩ := hex
    refine ⟨j, h2, ready_doneE E j h3 done ?_⟩
    rw [hr, List.mem_range'_1]
    omega
  obtain ⟨i0, hi0, hr0⟩ := hsome
  refine ⟨fun h0 => (by rw [h0] at hr0; cases hr0), fun i hi => ?_⟩
  have him : i < m := Nat.lt_of_not_le fun h => tail_waits hs hc hn inv _ i0 rfl hi0 (mem_ready.1 hr0).1 i h hi
  have hiE : ∀ p ∈ E, p.1 ≠ i := by
   intro p hp he
   have h1 := doneE_true E done (fun q hq => by have := (hin q hq).2; omega) p hp
   rw [he, (mem_ready.1 hi).1] at h1
   cases h1
  by_cases hni : n ≤ i
  ·-- a variable is made
   obtain ⟨o, ho, hd, hg, hrun⟩ := hA i hni him
   unfold wpOp
   have hw : Region.wanted o (yielded ops (putE ds vs E a).tmps) = true := by simp [Region.wanted, hg]
   simp only [ho, hw, if_true]
   refine .inl ?_
   unfold Oper.wp
   rw [hrun]
   simp only [Oper.upon]
   rw [hd, ← putE_snoc, ← doneE_snoc]
   refine ih f (E ++ [(i, w.heap.size)]) done a _ (by simp; omega) ?_ ?_ ?_ hsz ?_ hH (hK.more i)
   ·rw [List.map_append, List.nodup_append]
    refine ⟨hnd, by simp, fun x hx y hy e => ?_⟩
    simp only [List.map_cons, List.map_nil, List.mem_singleton] at hy
    obtain ⟨p, hp, hpe⟩ := List.mem_map.1 hx
    exact hiE p hp (by omega)
   ·intro p hp
    rcases List.mem_append.1 hp with hp | hp
    ·exact hin p hp
    ·rw [List.mem_singleton.1 hp]
     exact ⟨hni, him⟩
   ·cases f with
    | zero => simp; omega
    | succ f =>
     simp only [List.length_append, List.length_cons, List.length_nil]
     refine Nat.lt_of_not_le fun hle => ?_
     have hlen2 : E.length = m - n := by omega
     have hsub : E.map Prod.fst ⊆ List.range' n (m - n) := fun x hx => by
      obtain ⟨p, hp, hpe⟩ := List.mem_map.1 hx
      have := hin p hp
      rw [List.mem_range'_1]
      omega
     have hmem : i ∈ E.map Prod.fst := by
      refine Classical.byContradiction fun hni2 => ?_
      have hnd2 : (i :: E.map Prod.fst).Nodup := List.nodup_cons.2 ⟨hni2, hnd⟩
      have hsub2 : (i :: E.map Prod.fst) ⊆ List.range' n (m - n) := fun x hx => by
       rcases List.mem_cons.1 hx with rfl | hx
       ·rw [List.mem_range'_1]
        omega
       ·exact hsub hx
      have := hnd2.length_le_of_subset hsub2
      simp at this
      omega
     obtain ⟨p, hp, hpe⟩ := List.mem_map.1 hmem
     exact hiE p hp hpe
   ·rw [doneE_snoc]
    exact inv.set hi him
  ·-- an operation of the head
   obtain ⟨hiun, oi, hoi, hie⟩ := mem_ready.1 hi
   have hrd : i ∈ Region.ready md ops done := by
    rw [mem_ready]
    rw [doneE_getD E i true hiE] at hiun
    refine ⟨hiun, oi, hoi, fun e he hb => ?_⟩
    have h1 := hie e he hb
    rwa [doneE_getD E e.on false (fun p hp heq => waits_of hoi (hap i p.1 him (hin p hp).1 (hin p hp).2 (by have := (hin p hp).1; omega)).1 e he hb heq.symm)] at h1
   cases f with
   | zero =>
    rw [hend done a hH, List.mem_range'_1] at hrd
    omega
   | succ f =>
    rcases hH.2 i hrd with h0 | ⟨hlt, o, v, ho, hy, hKK⟩
    ·omega
    ·have eo : o = oi := Option.some.inj (ho.symm.trans hoi)
     subst eo
     have hso : ∀ cs b, o.op ≠ .select cs b := fun cs b => Region.noSelect_spec hsel i o cs b ho
     have hapE : ∀ p ∈ E, (∀ d, ds p.1 = some d → d ∉ o.looksAt ops) ∧ (∀ t, o.dst = some t → ds p.1 ≠ some t) := by
      intro p hp
      obtain ⟨q, hq, hqd, _⟩ := hA p.1 (hin p hp).1 (hin p hp).2
      have h4 := Oper.apart_spec ((hap i p.1 him (hin p hp).1 (hin p hp).2 (by have := (hin p hp).1; omega)).2 o q ho hq)
      rw [hqd] at h4
      exact ⟨h4.2.2, h4.2.1⟩
     have hyE : ∀ (E' : List (Nat × Nat)) (b : Act), (∀ p ∈ E', ∀ d, ds p.1 = some d → d ∉ o.looksAt ops) → YK P ops W o v b → YK P ops W o v (putE ds vs E' b) := by
      intro E'
      induction E' with
      | nil => intro b _ h; exact h
      | cons p E' ih2 =>
       intro b hb h
       exact ih2 _ (fun q hq => hb q (List.mem_cons_of_mem _ hq)) (h.same (execOp_put o hso b _ _ (hb p List.mem_cons_self)) (wanted_put o b _ _ (hb p List.mem_cons_self)))
     have hy' := hyE E a (fun p hp => (hapE p hp).1) hy
     -- the step itself
     have hstep : wpOp P ops Q i (wpAny P md ops Q (N + g) ((doneE E done).setIfInBounds i true)) (putE ds vs E a) w := by
      unfold Go.wpOp
      simp only [ho]
      have hnext : ∀ w', Below w.heap.size w w' → wpAny P md ops Q (N + g) ((doneE E done).setIfInBounds i true) ((putE ds vs E a).put o.dst v) w' := by
       intro w' hb
       rw [doneE_set E i hiE, putE_put ds vs E o.dst v (fun p hp => (hapE p hp).2)]
       refine ih f E (done.setIfInBounds i true) (a.put o.dst v) w' (by omega) hnd hin hlen (by simpa using hsz) ?_ hKK (hK.next hb)
       rw [← doneE_set E i hiE]
       exact inv.set hi him
      rcases hy' with ⟨hw, hv⟩ | ⟨hw, rfl⟩
      ·rw [if_pos hw]
       refine .inl ?_
       have hk := hv ⟨w, hK.keep⟩
       unfold keepAt at hk
       unfold Oper.wp
       simp only at hk
       generalize (execOp (putE ds vs E a).eval o).run P w = r at *
       cases r with
       | ok x w' =>
        cases x <;> simp only [keepUpon] at hk <;> simp only [Oper.upon]
        case value u =>
         obtain ⟨e1, e2⟩ := hk
         rw [e1, e2]
         exact hnext w (Below.refl _ _)
        case skip =>
         obtain ⟨e1, e2⟩ := hk
         rw [e1, ← e2]
         exact hnext w (Below.refl _ _)
        case enter f args =>
         obtain ⟨e1, hcl⟩ := hk
         rw [e1]
         exact hcl.mono fun e w'' ⟨he, hb⟩ => by subst he; exact hnext w'' hb
       | halt x w' => simp only [keepUpon] at hk
      ·rw [if_neg (by rw [hw]; exact Bool.false_ne_true)]
       exact hnext w (Below.refl _ _)
     exact hstep
end
open Go.RowKit
def setAll (cs : Array Value) : Nat → List Value → Array Value
 | _, [] => cs
 | o, v :: vs => setAll (cs.setIfInBounds o v) (o + 1) vs
theorem setAll_get (vs : List Value) : ∀ (cs : Array Value) (o i : Nat), o + vs.length ≤ cs.size → (setAll cs o vs)[i]? = if o ≤ i ∧ i < o + vs.length then vs[i - o]? else cs[i]? := by
 induction vs with
 | nil =>
  intro cs o i _
  simp only [setAll, List.length_nil]
  rw [if_neg (by omega)]
 | cons v vs ih =>
  intro cs o i h
  simp only [List.length_cons] at h
  simp only [setAll, List.length_cons]
  rw [ih _ _ _ (by simp; omega)]
  by_cases h1 : o + 1 ≤ i ∧ i < o + 1 + vs.length
  ·rw [if_pos h1, if_pos (by omega), show i - o = (i - (o + 1)) + 1 by omega, List.getElem?_cons_succ]
  ·rw [if_neg h1]
   by_cases h2 : i = o
   ·subst h2
    rw [if_pos (by omega), Nat.sub_self, Array.getElem?_setIfInBounds]
    simp
    omega
   ·rw [if_neg (by omega), Array.getElem?_setIfInBounds_ne (by omega)]
theorem heap_setCells (g : Nat) (T : TypeId) (vs : List Value) : ∀ (W : World) (cs : Array Value) (o : Nat), W.heap[g]? = some (.cells cs T (0, 0)) → (W.setCells g o vs).heap[g]? = some (.cells (setAll cs o vs) T (0, 0)) := by
 induction vs with
 | nil => intro W cs o h; exact h
 | cons v vs ih =>
  intro W cs o h
  exact ih _ _ _ (heap_setCell_same W g o cs T v h)
theorem heap_setCells_other (g k : Nat) (hk : k ≠ g) (vs : List Value) : ∀ (W : World) (o : Nat), (W.setCells g o vs).heap[k]? = W.heap[k]? := by
 induction vs with
 | nil => intro W o; rfl
 | cons v vs ih =>
  intro W o
  exact (ih _ _).trans (heap_setCell_other W ⟨g, o, none⟩ k v hk)
theorem below_setCells {B g : Nat} (hg : B ≤ g) (vs : List Value) : ∀ {w W : World} (o : Nat), Below B w W → Below B w (W.setCells g o vs) := by
 induction vs with
 | nil => intro w W o h; exact h
 | cons v vs ih =>
  intro w W o h
  exact ih (o + 1) (h.setCell (p := ⟨g, o, none⟩) hg v)
open Go.RowKit
section
variable {P : Program} {ops : Array Oper} {md : Region.Mode} {Q : Exit → Act → World → Prop}
theorem region_cut {id : Nat} {a : Act} {w : World} (R : Act → Act → World → Prop) (hm : P.follows .mixedOrders = true) (h2 : ∀ a' w', R a a' w' → Q .normal a' w')
  (h1 : (∀ a' w', R a a' w' → Q .normal a' w') → wpAny P .any ops Q ops.size (Array.replicate ops.size false) a w.drew) : (Code.region id ops true).wp P Q a w :=
 wp_region_any hm (h1 h2)
theorem ready_step {fuel : Nat} {listed : Array Bool} {a : Act} {w : World} {i : Nat} {o : Oper} {rs : List Nat} (ho : ops[i]? = some o) (hg : o.guard = none)
  (h : o.wp P a w (wpAny P md ops Q fuel (listed.setIfInBounds i true)) Q) (hs : AllReady P md ops Q fuel listed a w rs) : AllReady P md ops Q fuel listed a w (i :: rs) :=
 AllReady.cons ho (fun K' hK => by
  have hw : Region.wanted o (yielded ops a.tmps) = true := by simp [Region.wanted, hg]
  rw [if_pos hw]
  exact Oper.wp_mono hK h) hs
theorem op_load_row {o : Oper} {a : Act} {w : World} {K : Act → World → Prop} (ty : TypeId) (x : Operand) (ho : o.op = .load ty x) (g : Nat) (hx : a.eval x = .pointer (some ⟨g, 0, none⟩)) (t : TypeId) (cs : Array Value) (fr : Nat × Nat) (d : TypeDesc)
  (hg : w.heap[g]? = some (.cells cs t fr)) (hu : P.underlying ty = some d) (hd : (match d with | .struct _ | .array _ _ => true | _ => false) = true) (hi : (P.info? ty).map (·.size) = some cs.size)
  (hk : K (a.put o.dst (.agg cs)) w) : o.wp P a w K Q := by
 unfold Oper.wp execOp
 simp only [ho, hx, Instr.loadAt, Instr.sureAddr, Sem.run_bind, Sem.run_pure, Result.andThen_ok, run_loadVar_row w g t ty cs fr d hg hu hd hi]
 exact hk
theorem op_call {o : Oper} {a : Act} {w : World} {K : Act → World → Prop} {f : FuncId} {args : Array Value} (hrun : (execOp a.eval o).run P w = .ok (.enter f args) w)
  (h : Calls P f args w fun e w' => ∃ v, e = .returned v ∧ K (a.put o.dst v) w') : o.wp P a w K Q := by
 unfold Oper.wp
 rw [hrun]
 exact h.mono fun e w' ⟨v, he, hk⟩ => by subst he; exact hk
theorem ready_load {fuel : Nat} {listed : Array Bool} {a : Act} {w : World} {i : Nat} {o : Oper} {rs : List Nat} (ho : ops[i]? = some o) (hgd : o.guard = none) (ty : TypeId) (x : Operand) (hop : o.op = .load ty x) (g : Nat) (hx : a.eval x = .pointer (some ⟨g, 0, none⟩)) (t : TypeId) (cs : Array Value) (fr : Nat × Nat) (d : TypeDesc)
  (hg : w.heap[g]? = some (.cells cs t fr)) (hu : P.underlying ty = some d) (hd : (match d with | .struct _ | .array _ _ => true | _ => false) = true) (hi : (P.info? ty).map (·.size) = some cs.size)
  (hk : wpAny P md ops Q fuel (listed.setIfInBounds i true) (a.put o.dst (.agg cs)) w) (hs : AllReady P md ops Q fuel listed a w rs) : AllReady P md ops Q fuel listed a w (i :: rs) :=
 ready_step ho hgd (op_load_row ty x hop g hx t cs fr d hg hu hd hi hk) hs
theorem ready_call {fuel : Nat} {listed : Array Bool} {a : Act} {w : World} {i : Nat} {o : Oper} {rs : List Nat} (f : FuncId) (args : Array Value) (ho : ops[i]? = some o) (hgd : o.guard = none) (hrun : (execOp a.eval o).run P w = .ok (.enter f args) w)
  (h : Calls P f args w fun e w' => ∃ v, e = .returned v ∧ wpAny P md ops Q fuel (listed.setIfInBounds i true) (a.put o.dst v) w') (hs : AllReady P md ops Q fuel listed a w rs) : AllReady P md ops Q fuel listed a w (i :: rs) :=
 ready_step ho hgd (op_call hrun h) hs
theorem ready_store {fuel : Nat} {listed : Array Bool} {a : Act} {w : World} {i : Nat} {o : Oper} {rs : List Nat} (ho : ops[i]? = some o) (hgd : o.guard = none) (ty : TypeId) (x y : Operand) (hop : o.op = .store ty x y) (b k : Nat) (cells : Array Value)
  (hx : a.eval x = .pointer (some ⟨b, k, none⟩)) (hy : a.eval y = .agg cells) (ht : w.there b k cells.size) (hi : (P.info? ty).map (·.size) = some cells.size) (h1 : cells.all (·.oneCell') = true)
  (h : wpAny P md ops Q fuel (listed.setIfInBounds i true) (a.put o.dst undef) (w.setCells b k cells.toList)) (hs : AllReady P md ops Q fuel listed a w rs) : AllReady P md ops Q fuel listed a w (i :: rs) :=
 ready_step ho hgd (wp_store_mid ty x y hop b k cells hx hy ht hi h1 h) hs
theorem results_cell_tmp {fn : Func} {p s : Tmp} {ty : TypeId} (h : fn.results = #[.cell p ty, .tmp s]) (tmps : Array Value) (w : World) (g : Nat) (t : TypeId) (cs : Array Value) (fr : Nat × Nat) (d : TypeDesc) (v : Value)
  (hp : tmps.getD p undef = .pointer (some ⟨g, 0, none⟩)) (hs : tmps.getD s undef = v) (hg : w.heap[g]? = some (.cells cs t fr))
  (hu : P.underlying ty = some d) (hd : (match d with | .struct _ | .array _ _ => true | _ => false) = true) (hi : (P.info? ty).map (·.size) = some cs.size) :
  (results fn tmps).run P w = .ok (.tuple #[.agg cs, v]) w := by
 have hp' : tmps[p]?.getD undef = .pointer (some ⟨g, 0, none⟩) := by simpa using hp
 have hs' : tmps[s]?.getD undef = v := by simpa using hs
 simp [results, h, hp', hs', asAddr, run_loadVar_row w g t ty cs fr d hg hu hd hi]
end
open Go.RowKit
def av (n : Nat) (F : NV) : Array Value := ((List.range n).map F).toArray
def w64 (f : NI) : Nat → Value := fun i => .int .u64 (f i)
def w32 (f : NI) : Nat → Value := fun i => .int .u32 (f i)
def w8 (f : NI) : Nat → Value := fun i => .int .u8 (f i)
theorem av_size (n : Nat) (F : NV) : (av n F).size = n := by simp [av]
theorem av_get (n : Nat) (F : NV) (i : Nat) (h : i < n) : (av n F)[i]? = some (F i) := by simp [av, h]
theorem av_congr {n : Nat} {F G : NV} (h : ∀ i, i < n → F i = G i) : av n F = av n G := by
 unfold av
 congr 1
 exact List.map_congr_left fun i hi => h i (List.mem_range.1 hi)
def upd {α : Type} (f : Nat → α) (k : Nat) (v : α) : Nat → α := fun i => if i = k then v else f i
theorem av_set (n : Nat) (F : NV) (k : Nat) (v : Value) : (av n F).setIfInBounds k v = av n (upd F k v) := by
 apply Array.ext_getElem?
 intro i
 by_cases hi : i < n
 ·rw [Array.getElem?_setIfInBounds, av_get n (upd F k v) i hi]
  by_cases hk : k = i
  ·subst hk
   rw [if_pos rfl, if_pos (by rw [av_size]; exact hi)]
   simp [upd]
  ·have : ¬ i = k := fun h => hk h.symm
   rw [if_neg hk, av_get n F i hi]
   simp [upd, this]
 ·rw [Array.getElem?_eq_none (by simp [av_size]; omega), Array.getElem?_eq_none (by simp [av_size]; omega)]
structure Blk where
 g : Nat
 Z : Obj
structure Ctx where
 w : World
 r : List Nat
def OF : Nat → Nat := fun i => ([0, 1, 2, 3, 4, 5, 6, 7, 8, 9, 10, 11, 12, 13, 14, 15, 14, 10, 4, 8, 9, 15, 13, 6, 1, 12, 0, 2, 11, 7, 5, 3, 11, 8, 12, 0, 5, 2, 15, 13, 10, 14, 3, 6, 7, 1, 9, 4, 7, 9, 3, 1, 13, 12, 11, 14, 2, 6, 5, 10, 4, 0, 15, 8, 9, 0, 5, 7, 2, 4, 10, 15, 14, 1, 11, 12, 6, 8, 3, 13, 2, 12, 6, 10, 0, 11, 8, 3, 4, 13, 7, 5, 15, 14, 1, 9, 12, 5, 1, 15, 14, 13, 4, 10, 0, 7, 6, 3, 9, 2, 8, 11, 13, 11, 7, 14, 12, 1, 3, 9, 5, 0, 15, 4, 8, 6, 2, 10, 6, 15, 14, 9, 11, 3, 0, 8, 12, 2, 13, 7, 1, 4, 10, 5, 10, 2, 8, 4, 7, 6, 1, 5, 15, 11, 9, 14, 3, 12, 13, 0] : List Nat).getD i 0
def TF : Nat → Int := fun i => ([16, 12, 8, 7] : List Int).getD i 0
structure Laid (w : World) : Prop where
 o : ∀ i, i < 160 → w.cell? ⟨0, i, none⟩ = some (.int .u8 (OF i : Int))
 t : ∀ i, i < 4 → w.cell? ⟨2, i, none⟩ = some (.int .i64 (TF i))
structure Grw (w w' : World) (r : List Nat) : Prop where
 os : w'.os = w.os
 tape : w'.tape = w.tape
 output : w'.output = w.output
 size : w.heap.size ≤ w'.heap.size
 block : ∀ k, k < w.heap.size → k ∉ r → w'.heap[k]? = w.heap[k]?
theorem Laid.lt {w : World} (h : Laid w) : 2 < w.heap.size := by
 refine Classical.byContradiction fun hn => ?_
 have h0 := h.t 0 (by decide)
 have : w.heap[2]? = none := Array.getElem?_eq_none (by omega)
 simp [World.cell?, this] at h0
theorem cell_of {w w' : World} {k : Nat} (e : w'.heap[k]? = w.heap[k]?) (i : Nat) : w'.cell? ⟨k, i, none⟩ = w.cell? ⟨k, i, none⟩ := by
 unfold World.cell?
 simp only
 rw [e]
theorem Laid.of {w w' : World} (h : Laid w) (e : ∀ k, k < 3 → w'.heap[k]? = w.heap[k]?) : Laid w' :=
 ⟨fun i hi => by rw [cell_of (e 0 (by decide))]; exact h.o i hi, fun i hi => by rw [cell_of (e 2 (by decide))]; exact h.t i hi⟩
theorem grown_refl (w : World) (r : List Nat) : Grw w w r := ⟨rfl, rfl, rfl, Nat.le_refl _, fun _ _ _ => rfl⟩
theorem below_grown {w w' : World} (h : Grw w w' []) : Below w.heap.size w w' := ⟨h.os, h.tape, h.output, h.size, fun k hk => h.block k hk (by simp)⟩
structure Mem (c : Ctx) (L : List Blk) (W : World) : Prop where
 old : Grw c.w W c.r
 at_ : ∀ b ∈ L, W.heap[b.g]? = some b.Z
 ge : ∀ b ∈ L, c.w.heap.size ≤ b.g ∨ b.g ∈ c.r
 nodup : (L.map Blk.g).Nodup
 lay : Laid c.w
 ne : ∀ k ∈ c.r, 2 < k
theorem Mem.start {w : World} (h : Laid w) : Mem ⟨w, []⟩ [] w := ⟨grown_refl _ _, by simp, by simp, by simp, h, by simp⟩
theorem Mem.startp {w : World} (h : Laid w) {g : Nat} {Z : Obj} (hg : w.heap[g]? = some Z) (h0 : 2 < g) : Mem ⟨w, [g]⟩ [⟨g, Z⟩] w := ⟨grown_refl _ _, by simpa using hg, by simp, by simp, h, by simpa using h0⟩
theorem Mem.startp2 {w : World} (h : Laid w) {g k : Nat} {Z Y : Obj} (hg : w.heap[g]? = some Z) (h0 : 2 < g) (hk : w.heap[k]? = some Y) (k0 : 2 < k) (hne : g ≠ k) : Mem ⟨w, [g, k]⟩ [⟨g, Z⟩, ⟨k, Y⟩] w := ⟨grown_refl _ _, by simpa using ⟨hg, hk⟩, by simp, by simpa using hne, h, by simp; exact ⟨h0, k0⟩⟩
theorem Mem.laid {c : Ctx} {W : World} {L : List Blk} (M : Mem c L W) : Laid W := M.lay.of fun k hk => M.old.block k (Nat.lt_of_lt_of_le hk M.lay.lt) fun e => absurd (M.ne k e) (by omega)
theorem Mem.lt {c : Ctx} {W : World} {L : List Blk} (M : Mem c L W) {b : Blk} (hb : b ∈ L) : b.g < W.heap.size := by
 have h := M.at_ b hb
 exact (Array.getElem?_eq_some_iff.1 h).1
theorem grown_keep {c : Ctx} {W W' : World} (ho : Grw c.w W c.r) (h : Below W.heap.size W W') : Grw c.w W' c.r :=
 ⟨h.os.trans ho.os, h.tape.trans ho.tape, h.output.trans ho.output, Nat.le_trans ho.size h.size, fun k hk hr => (h.block k (Nat.lt_of_lt_of_le hk ho.size)).trans (ho.block k hk hr)⟩
theorem Mem.keep {c : Ctx} {W W' : World} {L : List Blk} (M : Mem c L W) (h : Below W.heap.size W W') : Mem c L W' where
 old := grown_keep M.old h
 at_ := fun b hb => by rw [h.block _ (M.lt hb)]; exact M.at_ b hb
 ge := M.ge
 nodup := M.nodup
 lay := M.lay
 ne := M.ne
theorem Mem.news {c : Ctx} {W W' : World} {L N : List Blk} (M : Mem c L W) (h : Below W.heap.size W W') (hat : ∀ b ∈ N, W'.heap[b.g]? = some b.Z) (hge : ∀ b ∈ N, W.heap.size ≤ b.g) (hnd : (N.map Blk.g).Nodup) : Mem c (L ++ N) W' where
 old := grown_keep M.old h
 at_ := fun b hb => by
  rcases List.mem_append.1 hb with hb | hb
  ·rw [h.block _ (M.lt hb)]; exact M.at_ b hb
  ·exact hat b hb
 ge := fun b hb => by
  rcases List.mem_append.1 hb with hb | hb
  ·exact M.ge b hb
  ·exact .inl (Nat.le_trans M.old.size (hge b hb))
 nodup := by
  rw [List.map_append, List.nodup_append]
  refine ⟨M.nodup, hnd, fun x hx y hy e => ?_⟩
  obtain ⟨b, hb, rfl⟩ := List.mem_map.1 hx
  obtain ⟨d, hd, rfl⟩ := List.mem_map.1 hy
  have h1 := M.lt hb
  have h2 := hge d hd
  omega
 lay := M.lay
 ne := M.ne
theorem Mem.new {c : Ctx} {W W' : World} {L : List Blk} (M : Mem c L W) (g : Nat) (Z : Obj) (h : Below W.heap.size W W') (hat : W'.heap[g]? = some Z) (hge : W.heap.size ≤ g) : Mem c (L ++ [⟨g, Z⟩]) W' :=
 M.news h (by simpa using hat) (by simpa using hge) (by simp)
theorem Mem.drop {c : Ctx} {W : World} {L L' : List Blk} (M : Mem c L W) (h : L'.Sublist L) : Mem c L' W where
 old := M.old
 at_ := fun b hb => M.at_ b (h.subset hb)
 ge := fun b hb => M.ge b (h.subset hb)
 nodup := M.nodup.sublist (h.map _)
 lay := M.lay
 ne := M.ne
theorem Mem.perm {c : Ctx} {W : World} {L L' : List Blk} (M : Mem c L W) (h : L.Perm L') : Mem c L' W where
 old := M.old
 at_ := fun b hb => M.at_ b (h.mem_iff.2 hb)
 ge := fun b hb => M.ge b (h.mem_iff.2 hb)
 nodup := (h.map _).nodup_iff.1 M.nodup
 lay := M.lay
 ne := M.ne
theorem Mem.drew {c : Ctx} {W : World} {L : List Blk} (M : Mem c L W) : Mem c L W.drew := M.keep ((Below.refl _ _).drew)
theorem nodup_ne {α : Type} {l : List α} (h : l.Nodup) {i j : Nat} (hij : i < j) (hj : j < l.length) : l[i]? ≠ l[j]? := by
 have h1 := List.pairwise_iff_getElem.1 h i j (by omega) hj hij
 rw [List.getElem?_eq_getElem (by omega), List.getElem?_eq_getElem hj]
 exact fun e => h1 (Option.some.inj e)
theorem nodup_of_map {α β : Type} {f : α → β} {l : List α} (h : (l.map f).Nodup) : l.Nodup := (List.pairwise_map.1 h).imp fun hab e => hab (by rw [e])
theorem fst_one {E : List (Nat × Nat)} (hnd : (E.map Prod.fst).Nodup) {x y : Nat × Nat} (hx : x ∈ E) (hy : y ∈ E) (e : x.1 = y.1) : x = y := by
 obtain ⟨i, hi⟩ := List.mem_iff_getElem?.1 hx
 obtain ⟨j, hj⟩ := List.mem_iff_getElem?.1 hy
 have li := (List.getElem?_eq_some_iff.1 hi).1
 have lj := (List.getElem?_eq_some_iff.1 hj).1
 rcases Nat.lt_trichotomy i j with hlt | heq | hlt
 ·exact absurd (by simp [hi, hj, e]) (nodup_ne hnd hlt (by simpa using lj))
 ·subst heq
  exact Option.some.inj (hi.symm.trans hj)
 ·exact absurd (by simp [hi, hj, e]) (nodup_ne hnd hlt (by simpa using li))
theorem nodup_at {L : List Blk} (h : (L.map Blk.g).Nodup) {i j : Nat} {b c : Blk} (hi : L[i]? = some b) (hj : L[j]? = some c) (hij : i ≠ j) : b.g ≠ c.g := by
 intro e
 have h1 := List.getElem?_eq_some_iff.1 hi
 have h2 := List.getElem?_eq_some_iff.1 hj
 obtain ⟨l1, e1⟩ := h1
 obtain ⟨l2, e2⟩ := h2
 rcases Nat.lt_or_gt_of_ne hij with hlt | hlt
 ·refine nodup_ne h hlt (by simpa using l2) ?_
  simp [hi, hj, e]
 ·refine nodup_ne h hlt (by simpa using l1) ?_
  simp [hi, hj, e]
theorem Mem.put {c : Ctx} {W W' : World} {L : List Blk} (M : Mem c L W) (i : Nat) (b : Blk) (hi : L[i]? = some b) (Z : Obj) (hu : Grw W W' [b.g]) (hz : W'.heap[b.g]? = some Z) : Mem c (L.set i ⟨b.g, Z⟩) W' where
 old := ⟨hu.os.trans M.old.os, hu.tape.trans M.old.tape, hu.output.trans M.old.output, Nat.le_trans M.old.size hu.size, fun k hk hr => by
  have hg := M.ge b (List.mem_of_getElem? hi)
  refine (hu.block k (Nat.lt_of_lt_of_le hk M.old.size) fun e => ?_).trans (M.old.block k hk hr)
  obtain rfl := List.mem_singleton.1 e
  rcases hg with hg | hg
  ·omega
  ·exact hr hg⟩
 at_ := fun d hd => by
  obtain ⟨j, hj⟩ := List.mem_iff_getElem?.1 hd
  rw [List.getElem?_set] at hj
  by_cases hij : i = j
  ·subst hij
   rw [if_pos rfl] at hj
   split at hj
   ·cases hj
    exact hz
   ·cases hj
  ·rw [if_neg hij] at hj
   have hm := List.mem_of_getElem? hj
   rw [hu.block _ (M.lt hm) (fun e => nodup_at M.nodup hj hi (Ne.symm hij) (List.mem_singleton.1 e))]
   exact M.at_ d hm
 ge := fun d hd => by
  obtain ⟨j, hj⟩ := List.mem_iff_getElem?.1 hd
  rw [List.getElem?_set] at hj
  by_cases hij : i = j
  ·subst hij
   rw [if_pos rfl] at hj
   split at hj
   ·cases hj
    exact M.ge b (List.mem_of_getElem? hi)
   ·cases hj
  ·rw [if_neg hij] at hj
   exact M.ge d (List.mem_of_getElem? hj)
 nodup := by
  have e : (L.set i ⟨b.g, Z⟩).map Blk.g = L.map Blk.g := by
   apply List.ext_getElem?
   intro j
   simp only [List.getElem?_map, List.getElem?_set]
   by_cases hij : i = j
   ·subst hij
    rw [if_pos rfl, hi]
    have := (List.getElem?_eq_some_iff.1 hi).1
    simp [this]
   ·rw [if_neg hij]
  rw [e]
  exact M.nodup
 lay := M.lay
 ne := M.ne
theorem Mem.put2 {c : Ctx} {W W' : World} {L : List Blk} (M : Mem c L W) (i j : Nat) (b d : Blk) (hi : L[i]? = some b) (hj : L[j]? = some d) (Z Y : Obj) (hu : Grw W W' [b.g, d.g]) (hz : W'.heap[b.g]? = some Z) (hy : W'.heap[d.g]? = some Y) : Mem c ((L.set i ⟨b.g, Z⟩).set j ⟨d.g, Y⟩) W' := by
 have hmem : ∀ x ∈ (L.set i ⟨b.g, Z⟩).set j ⟨d.g, Y⟩, W'.heap[x.g]? = some x.Z ∧ ∃ y ∈ L, y.g = x.g := fun x hx => by
  obtain ⟨k, hk⟩ := List.mem_iff_getElem?.1 hx
  rw [List.getElem?_set] at hk
  by_cases hjk : j = k
  ·subst hjk
   rw [if_pos rfl] at hk
   split at hk
   ·cases hk
    exact ⟨hy, d, List.mem_of_getElem? hj, rfl⟩
   ·cases hk
  ·rw [if_neg hjk, List.getElem?_set] at hk
   by_cases hik : i = k
   ·subst hik
    rw [if_pos rfl] at hk
    split at hk
    ·cases hk
     exact ⟨hz, b, List.mem_of_getElem? hi, rfl⟩
    ·cases hk
   ·rw [if_neg hik] at hk
    have hm := List.mem_of_getElem? hk
    refine ⟨?_, x, hm, rfl⟩
    rw [hu.block _ (M.lt hm) (fun e => by
     rcases List.mem_cons.1 e with e | e
     ·exact nodup_at M.nodup hk hi (Ne.symm hik) e
     ·exact nodup_at M.nodup hk hj (Ne.symm hjk) (List.mem_singleton.1 e))]
    exact M.at_ x hm
 refine ⟨⟨hu.os.trans M.old.os, hu.tape.trans M.old.tape, hu.output.trans M.old.output, Nat.le_trans M.old.size hu.size, fun k hk hr => ?_⟩, fun x hx => (hmem x hx).1, fun x hx => ?_, ?_, M.lay, M.ne⟩
 ·refine (hu.block k (Nat.lt_of_lt_of_le hk M.old.size) fun e => ?_).trans (M.old.block k hk hr)
  have key : ∀ y ∈ L, k ≠ y.g := fun y hy2 e2 => by
   rcases M.ge y hy2 with h | h
   ·omega
   ·exact hr (e2 ▸ h)
  rcases List.mem_cons.1 e with e | e
  ·exact key b (List.mem_of_getElem? hi) e
  ·exact key d (List.mem_of_getElem? hj) (List.mem_singleton.1 e)
 ·obtain ⟨y, hy2, e⟩ := (hmem x hx).2
  rw [← e]
  exact M.ge y hy2
 ·have e : ((L.set i ⟨b.g, Z⟩).set j ⟨d.g, Y⟩).map Blk.g = L.map Blk.g := by
   apply List.ext_getElem?
   intro k
   simp only [List.getElem?_map, List.getElem?_set]
   by_cases hjk : j = k
   ·subst hjk
    have := (List.getElem?_eq_some_iff.1 hj).1
    rw [if_pos rfl, hj]
    simp [this]
   ·rw [if_neg hjk]
    by_cases hik : i = k
    ·subst hik
     have := (List.getElem?_eq_some_iff.1 hi).1
     rw [if_pos rfl, hi]
     simp [this]
    ·rw [if_neg hik]
  rw [e]
  exact M.nodup
theorem Mem.get {c : Ctx} {W : World} {L : List Blk} (M : Mem c L W) (i : Nat) {g : Nat} {Z : Obj} (hi : L[i]? = some ⟨g, Z⟩) : W.heap[g]? = some Z := M.at_ _ (List.mem_of_getElem? hi)
theorem Mem.ne0 {c : Ctx} {W : World} {L : List Blk} (M : Mem c L W) (i : Nat) {g : Nat} {Z : Obj} (hi : L[i]? = some ⟨g, Z⟩) : 2 < g := by
 rcases M.ge _ (List.mem_of_getElem? hi) with h | h
 ·exact Nat.lt_of_lt_of_le M.lay.lt h
 ·exact M.ne _ h
theorem grown_trans {w1 w2 w3 : World} {r : List Nat} (h : Grw w1 w2 r) (k : Grw w2 w3 r) : Grw w1 w3 r := ⟨k.os.trans h.os, k.tape.trans h.tape, k.output.trans h.output, Nat.le_trans h.size k.size, fun j hj hr => (k.block j (Nat.lt_of_lt_of_le hj h.size) hr).trans (h.block j hj hr)⟩
theorem grown_setCell (W : World) (g o : Nat) (v : Value) : Grw W (W.setCell ⟨g, o, none⟩ v) [g] :=
 ⟨rfl, rfl, rfl, by simp, fun k _ hr => Below.heap_setCell _ _ _ _ (fun e => hr (by rw [e]; exact List.mem_singleton.2 rfl))⟩
theorem grown_setCells (g : Nat) (vs : List Value) : ∀ (W : World) (o : Nat), Grw W (W.setCells g o vs) [g] := by
 induction vs with
 | nil => intro W o; exact grown_refl _ _
 | cons v vs ih => intro W o; exact grown_trans (grown_setCell W g o v) (ih _ _)
theorem cell_av {W : World} {g n T : Nat} {F : NV} {fr : Nat × Nat} (h : W.heap[g]? = some (.cells (av n F) T fr)) {i : Nat} (hi : i < n) : W.cell? ⟨g, i, none⟩ = some (F i) := by
 unfold World.cell?
 rw [h]
 simpa using av_get n F i hi
theorem free_av {W : World} {g n T : Nat} {F : NV} (h : W.heap[g]? = some (.cells (av n F) T (0, 0))) (i : Nat) : W.frozen? ⟨g, i, none⟩ = false := by
 unfold World.frozen?
 rw [h]
 simp
theorem av_toList_get (n : Nat) (F : NV) (j : Nat) (v : Value) (h : (av n F).toList[j]? = some v) : j < n ∧ v = F j := by
 have hj : j < n := by
  have := (List.getElem?_eq_some_iff.1 h).1
  simpa [av_size] using this
 refine ⟨hj, ?_⟩
 have h2 := av_get n F j hj
 rw [Array.getElem?_toList] at h
 rw [h2] at h
 exact (Option.some.inj h).symm
theorem range_av {W : World} {g n T : Nat} {F : NV} {fr : Nat × Nat} (h : W.heap[g]? = some (.cells (av n F) T fr)) (o k : Nat) (F' : NV) (hok : o + k ≤ n) (he : ∀ i, i < k → F (o + i) = F' i) : W.rangeAt g o (av k F').toList := by
 intro j v hv
 obtain ⟨hj, rfl⟩ := av_toList_get k F' j v hv
 rw [cell_av h (by omega), he j hj]
theorem there_av {W : World} {g n T : Nat} {F : NV} (h : W.heap[g]? = some (.cells (av n F) T (0, 0))) (o k : Nat) (hk : o + k ≤ n) : W.there g o k := fun j hj => by
 rw [cell_av h (by omega)]
 exact ⟨rfl, free_av h _⟩
theorem setAll_av (n : Nat) (F F' Fn : NV) (off k : Nat) (hk : off + k ≤ n) (hfn : ∀ j, j < n → (if off ≤ j ∧ j < off + k then F' (j - off) else F j) = Fn j) : setAll (av n F) off (av k F').toList = av n Fn := by
 have hlen : (av k F').toList.length = k := by simp [av_size]
 apply Array.ext_getElem?
 intro i
 rw [setAll_get _ _ _ _ (by rw [hlen, av_size]; exact hk), hlen]
 by_cases hi : i < n
 ·rw [av_get n Fn i hi, ← hfn i hi]
  by_cases h : off ≤ i ∧ i < off + k
  ·rw [if_pos h, if_pos h, Array.getElem?_toList, av_get k F' _ (by omega)]
  ·rw [if_neg h, if_neg h, av_get n F i hi]
 ·rw [if_neg (by omega), Array.getElem?_eq_none (by rw [av_size]; omega), Array.getElem?_eq_none (by rw [av_size]; omega)]
theorem av_one (n : Nat) (F : NV) (h : ∀ i, i < n → (F i).oneCell' = true) : (av n F).all (·.oneCell') = true := by
 rw [Array.all_eq_true]
 intro i hi
 have hi' : i < n := by rw [av_size] at hi; exact hi
 have h2 := av_get n F i hi'
 rw [Array.getElem?_eq_getElem hi] at h2
 rw [Option.some.inj h2]
 exact h i hi'
structure PL (P : Program) (ops : Array Oper) (Q : Exit → Act → World → Prop) (l : List Oper) (a : Act) (w : World) : Prop where
 out : wpList P ops Q l a w
structure KL (P : Program) (ops : Array Oper) (W : World) (Q : Act → Prop) (l : List Oper) (a : Act) : Prop where
 out : wpK P ops W Q l a
section
variable {P : Program} {ops : Array Oper} {rest : List Oper} {o : Oper} {a : Act} {w : World} {c : Ctx} {L : List Blk} {Q : Exit → Act → World → Prop} {K : Act → World → Prop}
theorem rg_lit {id : Nat} {l : List Oper} (h : PL P l.toArray Q l a w) : (Code.region id l.toArray false).wp P Q a w := wp_region_lit h.out
theorem pl_nil (h : Q .normal a w) : PL P ops Q [] a w := ⟨h⟩
theorem want_no (hg : o.guard = none) : Region.wanted o (yielded ops a.tmps) = true := by
 unfold Region.wanted
 rw [hg]
theorem au_then (h : K a w) : Exit.then K Q .normal a w := h
theorem au_then_ret (h : Q .ret a w) : Exit.then K Q .ret a w := h
theorem au_then_exit {i : Nat} (h : Q (.exit i) a w) : Exit.then K Q (.exit i) a w := h
theorem au_block {id : Nat} (h : Q .normal a w) : Exit.inBlock id Q .normal a w := h
theorem au_block_ret {id : Nat} (h : Q .ret a w) : Exit.inBlock id Q .ret a w := h
theorem au_block_exit {id : Nat} (h : Q .normal a w) : Exit.inBlock id Q (.exit id) a w := by
 show (if id = id then Q .normal a w else Q (.exit id) a w)
 rw [if_pos rfl]
 exact h
theorem pl_to (hw : Region.wanted o (yielded ops a.tmps) = true) (d : Option Tmp) (hd : o.dst = d) (v : Value) (w' : World) (hrun : (execOp a.eval o).run P w = .ok (.value v) w')
  (h : PL P ops Q rest (a.put d v) w') : PL P ops Q (o :: rest) a w :=
 ⟨Go.BigFrame.wpList_want hw fun _ hK => by
  unfold Oper.wp
  rw [hrun]
  subst hd
  exact hK _ _ h.out⟩
theorem pl_val (hw : Region.wanted o (yielded ops a.tmps) = true) (d : Option Tmp) (hd : o.dst = d) (v : Value) (hrun : ∀ w, (execOp a.eval o).run P w = .ok (.value v) w)
  (h : PL P ops Q rest (a.put d v) w) : PL P ops Q (o :: rest) a w := pl_to hw d hd v w (hrun w) h
theorem pl_skip (hw : Region.wanted o (yielded ops a.tmps) = false) (d : Option Tmp) (hd : o.dst = d) (h : PL P ops Q rest (a.put d undef) w) : PL P ops Q (o :: rest) a w := by
 subst hd
 exact ⟨wpList_skip hw h.out⟩
theorem new_below (W : World) (o : Obj) : Below W.heap.size W (W.alloc o) := (Below.refl _ _).alloc (Nat.le_refl _) _
theorem pl_mk (M : Mem c L w) (hw : Region.wanted o (yielded ops a.tmps) = true) (d : Option Tmp) (hd : o.dst = d) (v : NV) (Z : Obj) (hrun : ∀ w, (execOp a.eval o).run P w = .ok (.value (v w.heap.size)) (w.alloc Z))
  (h : ∀ g w', Mem c (L ++ [⟨g, Z⟩]) w' → PL P ops Q rest (a.put d (v g)) w') : PL P ops Q (o :: rest) a w :=
 pl_to hw d hd _ _ (hrun w) (h w.heap.size (w.alloc Z) (M.new _ Z (new_below w Z) (heap_alloc_new w Z) (Nat.le_refl _)))
theorem pl_new (M : Mem c L w) (hw : Region.wanted o (yielded ops a.tmps) = true) (d : Option Tmp) (hd : o.dst = d) (Z : Obj) (hrun : ∀ w, (execOp a.eval o).run P w = .ok (.value (.pointer (some ⟨w.heap.size, 0, none⟩))) (w.alloc Z))
  (h : ∀ g w', Mem c (L ++ [⟨g, Z⟩]) w' → PL P ops Q rest (a.put d (.pointer (some ⟨g, 0, none⟩))) w') : PL P ops Q (o :: rest) a w :=
 pl_mk M hw d hd (fun g => .pointer (some ⟨g, 0, none⟩)) Z hrun h
theorem pl_callq (hw : Region.wanted o (yielded ops a.tmps) = true) (d : Option Tmp) (hd : o.dst = d) (f : FuncId) (args : Array Value) (hrun : ∀ w, (execOp a.eval o).run P w = .ok (.enter f args) w)
  (hc : Calls P f args w fun e w' => ∃ v, e = .returned v ∧ PL P ops Q rest (a.put d v) w') : PL P ops Q (o :: rest) a w :=
 ⟨Go.BigFrame.wpList_want hw fun _ hK => by
  unfold Oper.wp
  rw [hrun]
  subst hd
  exact hc.mono fun e w' ⟨v, he, hb⟩ => by subst he; exact hK _ _ hb.out⟩
theorem pl_call (M : Mem c L w) (hw : Region.wanted o (yielded ops a.tmps) = true) (d : Option Tmp) (hd : o.dst = d) (f : FuncId) (args : Array Value) (v : Value) (hrun : ∀ w, (execOp a.eval o).run P w = .ok (.enter f args) w)
  (hc : ∀ w, Mem c L w → Calls P f args w fun e w' => e = .returned v ∧ Below w.heap.size w w') (h : ∀ w', Mem c L w' → PL P ops Q rest (a.put d v) w') : PL P ops Q (o :: rest) a w :=
 pl_callq hw d hd f args hrun ((hc w M).mono fun _ w' ⟨he, hb⟩ => ⟨v, he, h w' (M.keep hb)⟩)
theorem pl_calln (M : Mem c L w) (hw : Region.wanted o (yielded ops a.tmps) = true) (d : Option Tmp) (hd : o.dst = d) (f : FuncId) (args : Array Value) (v : NV) (Z : Obj) (hrun : ∀ w, (execOp a.eval o).run P w = .ok (.enter f args) w)
  (hc : ∀ w, Mem c L w → Calls P f args w fun e w' => ∃ g, e = .returned (v g) ∧ w.heap.size ≤ g ∧ w'.heap[g]? = some Z ∧ Below w.heap.size w w') (h : ∀ g w', Mem c (L ++ [⟨g, Z⟩]) w' → PL P ops Q rest (a.put d (v g)) w') : PL P ops Q (o :: rest) a w :=
 pl_callq hw d hd f args hrun ((hc w M).mono fun _ w' ⟨g, he, h1, h2, hb⟩ => ⟨v g, he, h g w' (M.new g Z hb h2 h1)⟩)
theorem pl_callp (M : Mem c L w) (hw : Region.wanted o (yielded ops a.tmps) = true) (d : Option Tmp) (hd : o.dst = d) (f : FuncId) (args : Array Value) (v : Value) (i g : Nat) (Z Z' : Obj) (hi : L[i]? = some ⟨g, Z⟩) (hrun : ∀ w, (execOp a.eval o).run P w = .ok (.enter f args) w)
  (hc : ∀ w, Mem c L w → Calls P f args w fun e w' => e = .returned v ∧ Grw w w' [g] ∧ w'.heap[g]? = some Z') (h : ∀ w', Mem c (L.set i ⟨g, Z'⟩) w' → PL P ops Q rest (a.put d v) w') : PL P ops Q (o :: rest) a w :=
 pl_callq hw d hd f args hrun ((hc w M).mono fun _ w' ⟨he, h1, h2⟩ => ⟨v, he, h w' (M.put i ⟨g, Z⟩ hi Z' h1 h2)⟩)
theorem pl_callp2 (M : Mem c L w) (hw : Region.wanted o (yielded ops a.tmps) = true) (d : Option Tmp) (hd : o.dst = d) (f : FuncId) (args : Array Value) (v : Value) (i j g k : Nat) (Z Y Z' : Obj) (R : Obj → Prop) (hi : L[i]? = some ⟨g, Z⟩) (hj : L[j]? = some ⟨k, Y⟩) (hrun : ∀ w, (execOp a.eval o).run P w = .ok (.enter f args) w)
  (hc : ∀ w, Mem c L w → Calls P f args w fun e w' => ∃ Y', e = .returned v ∧ Grw w w' [g, k] ∧ w'.heap[g]? = some Z' ∧ w'.heap[k]? = some Y' ∧ R Y') (h : ∀ Y' w', R Y' → Mem c ((L.set i ⟨g, Z'⟩).set j ⟨k, Y'⟩) w' → PL P ops Q rest (a.put d v) w') : PL P ops Q (o :: rest) a w :=
 pl_callq hw d hd f args hrun ((hc w M).mono fun _ w' ⟨Y', he, h1, h2, h3, h4⟩ => ⟨v, he, h Y' w' h4 (M.put2 i j ⟨g, Z⟩ ⟨k, Y⟩ hi hj Z' Y' h1 h2 h3)⟩)
theorem pl_load (M : Mem c L w) (hw : Region.wanted o (yielded ops a.tmps) = true) (d : Option Tmp) (hd : o.dst = d) (ty : TypeId) (x : Operand) (ho : o.op = .load ty x) (i g off : Nat) (hx : a.eval x = .pointer (some ⟨g, off, none⟩)) (n T : Nat) (F : NV) (hi : L[i]? = some ⟨g, .cells (av n F) T⟩)
  (k : Nat) (F' : NV) (hp : ∀ j, j < k → F (off + j) = F' j) (hk : off + k ≤ n) (t : TypeDesc) (hu : P.underlying ty = some t) (ht : t.isRow = true) (hz : (P.info? ty).map (·.size) = some k)
  (h : PL P ops Q rest (a.put d (.agg (av k F'))) w) : PL P ops Q (o :: rest) a w := by
 refine pl_to hw d hd (.agg (av k F')) w ?_ h
 unfold execOp
 have hl := run_loadAt_mid (P := P) w g off ty (av k F').toList t (range_av (M.get i hi) off k F' hk hp) hu ht (by rw [hz]; simp [av_size])
 simp only [ho, hx, Sem.run_bind, hl, Result.andThen_ok, Sem.run_pure, Array.toArray_toList]
theorem run_cell {w : World} {g k : Nat} {v : Value} (hc : w.cell? ⟨g, k, none⟩ = some v) (ty : TypeId) (hag : ∀ w, (isAgg ty).run P w = .ok false w) : (Instr.loadAt ty (.pointer (some ⟨g, k, none⟩))).run P w = .ok v w := by
 simp [Instr.loadAt, Instr.sureAddr, loadVar, hag, hc]
theorem pl_cell (M : Mem c L w) (hw : Region.wanted o (yielded ops a.tmps) = true) (d : Option Tmp) (hd : o.dst = d) (ty : TypeId) (x : Operand) (ho : o.op = .load ty x) (g off : Nat) (hx : a.eval x = .pointer (some ⟨g, off, none⟩)) (v : Value) (hag : ∀ w, (isAgg ty).run P w = .ok false w) (hc : ∀ w, Mem c L w → w.cell? ⟨g, off, none⟩ = some v)
  (h : PL P ops Q rest (a.put d v) w) : PL P ops Q (o :: rest) a w := by
 refine pl_to hw d hd v w ?_ h
 have hr := run_cell (P := P) (hc w M) ty hag
 unfold execOp
 simp only [ho, hx, Sem.run_bind, hr, Result.andThen_ok, Sem.run_pure]
theorem Mem.cell {W : World} (M : Mem c L W) (i : Nat) {g n T : Nat} {F : NV} (hi : L[i]? = some ⟨g, .cells (av n F) T⟩) {k : Nat} (hk : k < n) {v : Value} (hv : F k = v) : W.cell? ⟨g, k, none⟩ = some v := by
 rw [cell_av (M.get i hi) hk, hv]
theorem pl_put (M : Mem c L w) (hw : Region.wanted o (yielded ops a.tmps) = true) (hd : o.dst = none) (ty : TypeId) (x y : Operand) (ho : o.op = .store ty x y) (i g off : Nat) (hx : a.eval x = .pointer (some ⟨g, off, none⟩)) (n T : Nat) (F : NV) (hi : L[i]? = some ⟨g, .cells (av n F) T⟩) (k : Nat) (F' Fn : NV)
  (hy : a.eval y = .agg (av k F')) (hz : (P.info? ty).map (·.size) = some k) (hk : off + k ≤ n) (h1 : ∀ j, j < k → (F' j).oneCell' = true) (hfn : ∀ j, j < n → (if off ≤ j ∧ j < off + k then F' (j - off) else F j) = Fn j)
  (h : ∀ w', Mem c (L.set i ⟨g, .cells (av n Fn) T⟩) w' → PL P ops Q rest a w') : PL P ops Q (o :: rest) a w := by
 have R := M.get i hi
 refine ⟨Go.BigFrame.wpList_want hw fun K hK => wp_store_mid ty x y ho g off (av k F') hx hy (by rw [av_size]; exact there_av R off k hk) (by rw [hz, av_size]) (av_one _ _ h1) (hK _ _ ?_)⟩
 rw [hd]
 refine PL.out ?_
 exact h _ (M.put i ⟨g, _⟩ hi _ (grown_setCells g _ _ _) (by rw [heap_setCells g T _ w _ off R, setAll_av n F F' Fn off k hk hfn]))
theorem pl_put1 (M : Mem c L w) (hw : Region.wanted o (yielded ops a.tmps) = true) (hd : o.dst = none) (ty : TypeId) (x y : Operand) (ho : o.op = .store ty x y) (i g off : Nat) (hx : a.eval x = .pointer (some ⟨g, off, none⟩)) (n T : Nat) (F : NV) (hi : L[i]? = some ⟨g, .cells (av n F) T⟩) (v : Value) (Fn : NV)
  (hy : a.eval y = v) (hz : (P.info? ty).map (·.size) = some 1) (hk : off < n) (h1 : v.oneCell' = true) (hc : v.cells = #[v]) (hfn : ∀ j, j < n → (if j = off then v else F j) = Fn j)
  (h : ∀ w', Mem c (L.set i ⟨g, .cells (av n Fn) T⟩) w' → PL P ops Q rest a w') : PL P ops Q (o :: rest) a w := by
 have R := M.get i hi
 have h3 := h (w.setCell ⟨g, off, none⟩ v) (M.put i ⟨g, _⟩ hi _ (grown_setCell w g off v) (by
  rw [heap_setCell_same w g off _ T _ R, av_set]
  congr 2
  exact av_congr fun j hj => by rw [← hfn j hj]; rfl))
 have hrun : (Instr.storeAt ty (.pointer (some ⟨g, off, none⟩)) v).run P w = .ok () (w.setCell ⟨g, off, none⟩ v) := by
  cases hq : P.info? ty with
  | none => simp [hq] at hz
  | some t =>
   have ht : t.size = 1 := by simpa [hq] using hz
   have hcc := run_storeCells_cells (P := P) g off [v] 0 w (by intro j hj; simp at hj; subst hj; simp [cell_av R hk]) (by intro j hj; simp at hj; subst hj; simpa using free_av R off) (by simpa using h1)
   simp only [Nat.add_zero, World.setCells] at hcc
   simp [Instr.storeAt, Instr.sureAddr, storeVar, sizeOf, typeInfo, hq, ht, hc, hcc]
 refine ⟨Go.BigFrame.wpList_want hw fun K hK => ?_⟩
 unfold Oper.wp execOp
 simp only [ho, hx, hy, Sem.run_bind, hrun, Result.andThen_ok, Sem.run_pure]
 show K (a.put o.dst undef) _
 rw [hd]
 exact hK _ _ h3.out
end
section
variable {P : Program} {ops : Array Oper} {rest : List Oper} {o : Oper} {a : Act} {W : World} {c : Ctx} {L : List Blk} {Q : Act → Prop}
theorem k_any (hw : Region.wanted o (yielded ops a.tmps) = true) (d : Option Tmp) (hd : o.dst = d) (v : Value) (hrun : ∀ s : KW W, (execOp a.eval o).run P s.w = .ok (.value v) s.w) (h : KL P ops W Q rest (a.put d v)) : KL P ops W Q (o :: rest) a := by
 subst hd
 refine ⟨?_⟩
 unfold wpK
 rw [if_pos hw]
 refine ⟨v, fun s => ?_, h.out⟩
 unfold keepAt
 rw [hrun]
 exact ⟨rfl, rfl⟩
theorem k_val (hw : Region.wanted o (yielded ops a.tmps) = true) (d : Option Tmp) (hd : o.dst = d) (v : Value) (hrun : ∀ w, (execOp a.eval o).run P w = .ok (.value v) w) (h : KL P ops W Q rest (a.put d v)) : KL P ops W Q (o :: rest) a := k_any hw d hd v (fun s => hrun s.w) h
theorem k_skip (hw : Region.wanted o (yielded ops a.tmps) = false) (d : Option Tmp) (hd : o.dst = d) (h : KL P ops W Q rest (a.put d undef)) : KL P ops W Q (o :: rest) a := by
 subst hd
 refine ⟨?_⟩
 unfold wpK
 rw [if_neg (by rw [hw]; exact Bool.false_ne_true)]
 exact h.out
theorem k_call (M : Mem c L W) (hw : Region.wanted o (yielded ops a.tmps) = true) (d : Option Tmp) (hd : o.dst = d) (f : FuncId) (args : Array Value) (v : Value) (hrun : ∀ w, (execOp a.eval o).run P w = .ok (.enter f args) w)
  (hc : ∀ w, Mem c L w → Calls P f args w fun e w' => e = .returned v ∧ Below w.heap.size w w') (h : KL P ops W Q rest (a.put d v)) : KL P ops W Q (o :: rest) a := by
 subst hd
 refine ⟨?_⟩
 unfold wpK
 rw [if_pos hw]
 refine ⟨v, fun s => ?_, h.out⟩
 unfold keepAt
 rw [hrun]
 exact ⟨rfl, hc s.w (M.keep s.keep)⟩
theorem k_load (M : Mem c L W) (hw : Region.wanted o (yielded ops a.tmps) = true) (d : Option Tmp) (hd : o.dst = d) (ty : TypeId) (x : Operand) (ho : o.op = .load ty x) (i g off : Nat) (hx : a.eval x = .pointer (some ⟨g, off, none⟩)) (n T : Nat) (F : NV) (hi : L[i]? = some ⟨g, .cells (av n F) T⟩)
  (k : Nat) (F' : NV) (hp : ∀ j, j < k → F (off + j) = F' j) (hk : off + k ≤ n) (t : TypeDesc) (hu : P.underlying ty = some t) (ht : t.isRow = true) (hz : (P.info? ty).map (·.size) = some k)
  (h : KL P ops W Q rest (a.put d (.agg (av k F')))) : KL P ops W Q (o :: rest) a := by
 refine k_any hw d hd (.agg (av k F')) (fun s => ?_) h
 unfold execOp
 have hl := run_loadAt_mid (P := P) s.w g off ty (av k F').toList t (range_av ((M.keep s.keep).get i hi) off k F' hk hp) hu ht (by rw [hz]; simp [av_size])
 simp only [ho, hx, Sem.run_bind, hl, Result.andThen_ok, Sem.run_pure, Array.toArray_toList]
theorem k_cell (M : Mem c L W) (hw : Region.wanted o (yielded ops a.tmps) = true) (d : Option Tmp) (hd : o.dst = d) (ty : TypeId) (x : Operand) (ho : o.op = .load ty x) (g off : Nat) (hx : a.eval x = .pointer (some ⟨g, off, none⟩)) (v : Value) (hag : ∀ w, (isAgg ty).run P w = .ok false w) (hc : ∀ w, Mem c L w → w.cell? ⟨g, off, none⟩ = some v)
  (h : KL P ops W Q rest (a.put d v)) : KL P ops W Q (o :: rest) a := by
 refine k_any hw d hd v (fun s => ?_) h
 have hr := run_cell (P := P) (hc s.w (M.keep s.keep)) ty hag
 unfold execOp
 simp only [ho, hx, Sem.run_bind, hr, Result.andThen_ok, Sem.run_pure]
theorem kl_nil (h : Q a) : KL P ops W Q [] a := ⟨h⟩
theorem quiet_of_K : ∀ (l : List Oper) (a : Act), wpK P ops W Q l a → wpQuiet P ops (fun w' => ∃ s : KW W, w' = s.w) Q l a
 | [], _, h => h
 | o :: l, a, h => by
  unfold wpK at h
  unfold wpQuiet
  split
  ·rename_i hw
   rw [if_pos hw] at h
   obtain ⟨v, h1, h2⟩ := h
   refine ⟨v, fun w' => ?_, quiet_of_K l _ h2⟩
   rintro ⟨s, rfl⟩
   have h3 := h1 s
   unfold keepAt at h3
   unfold Oper.quietAt
   generalize (execOp a.eval o).run P s.w = r at *
   cases r with
   | ok x w' =>
    cases x <;> simp only [keepUpon] at h3 <;> simp only [Oper.quietUpon]
    case value => exact h3
    case skip => exact h3
    case enter f args => exact ⟨h3.1, keep_of h3.2⟩
   | halt x w' => simp only [keepUpon] at h3
  ·rename_i hw
   rw [if_neg hw] at h
   exact quiet_of_K l _ h
end
section
variable {P : Program} {W : World} {c : Ctx} {L : List Blk} {Q : Exit → Act → World → Prop} {a : Act}
theorem rg_tail {id : Nat} {l : List Oper} (M : Mem c L W) (n : Nat) (hm : P.follows .mixedOrders = true) (hB : Region.lexTailB .any l.toArray n = true)
  (h0 : KL P l.toArray W (fun a' => ∀ w', Mem c L w' → PL P l.toArray Q (l.drop n) a' w') (l.take n) a) : (Code.region id l.toArray true).wp P Q a W := by
 have h := h0.out
 refine wp_region_keep_tail n hm hB (quiet_of_K _ _ ?_)
 have key : ∀ (l1 : List Oper) (a1 : Act), wpK P l.toArray W (fun a' => ∀ w', Mem c L w' → PL P l.toArray Q (l.drop n) a' w') l1 a1 → wpK P l.toArray W (fun a' => ∀ s : KW W, wpList P l.toArray Q (l.drop n) a' s.w) l1 a1 := by
  intro l1
  induction l1 with
  | nil => intro a1 h1 s; exact (h1 s.w (M.keep s.keep)).out
  | cons o l1 ih =>
   intro a1 h1
   unfold wpK at h1
   unfold wpK
   split
   ·rename_i hw
    rw [if_pos hw] at h1
    obtain ⟨v, h2, h3⟩ := h1
    exact ⟨v, h2, ih _ h3⟩
   ·rename_i hw
    rw [if_neg hw] at h1
    exact ih _ h1
 exact key _ _ h
def AllocsAt (P : Program) : List Oper → List (Tmp × (Nat → Value) × Obj) → Prop
 | _, [] => True
 | [], _ :: _ => False
 | o :: l, (d, v, Z) :: zs => o.dst = some d ∧ o.guard = none ∧ (∀ a w, (execOp (Act.eval a) o).run P w = .ok (.value (v w.heap.size)) (w.alloc Z)) ∧ AllocsAt P l zs
def AllG : List (Tmp × (Nat → Value) × Obj) → (List Nat → Prop) → Prop
 | [], K => K []
 | _ :: zs, K => ∀ g, AllG zs fun gs => K (g :: gs)
theorem AllG.at_ : ∀ (zs : List (Tmp × (Nat → Value) × Obj)) (K : List Nat → Prop), AllG zs K → ∀ gs : List Nat, gs.length = zs.length → K gs
 | [], K, h, [], _ => h
 | _ :: zs, K, h, g :: gs, e => AllG.at_ zs _ (h g) gs (by simpa using e)
 | [], _, _, _ :: _, e => by simp at e
 | _ :: _, _, _, [], e => by simp at e
def blksOf : List (Tmp × (Nat → Value) × Obj) → List Nat → List Blk
 | (_, _, Z) :: zs, g :: gs => ⟨g, Z⟩ :: blksOf zs gs
 | _, _ => []
def putsOf : List (Tmp × (Nat → Value) × Obj) → List Nat → Act → Act
 | (d, v, _) :: zs, g :: gs, a => putsOf zs gs (a.put (some d) (v g))
 | _, _, a => a
theorem allocsAt_get : ∀ (l : List Oper) (zs : List (Tmp × (Nat → Value) × Obj)), AllocsAt P l zs → ∀ (j : Nat) (z : Tmp × (Nat → Value) × Obj), zs[j]? = some z → ∃ o, l[j]? = some o ∧ o.dst = some z.1 ∧ o.guard = none ∧ ∀ a w, (execOp (Act.eval a) o).run P w = .ok (.value (z.2.1 w.heap.size)) (w.alloc z.2.2)
 | _, [], _, j, z, h => by simp at h
 | [], _ :: _, h, _, _, _ => h.elim
 | o :: l, (d, T, k) :: zs, h, 0, z, e => by
  simp at e
  subst e
  exact ⟨o, rfl, h.1, h.2.1, h.2.2.1⟩
 | o :: l, (d, T, k) :: zs, h, j + 1, z, e => by
  obtain ⟨o', h1, h2⟩ := allocsAt_get l zs h.2.2.2 j z (by simpa using e)
  exact ⟨o', by simpa using h1, h2⟩
theorem putE_of (ds : Nat → Option Tmp) (vs : Nat → Nat → Value) : ∀ (zs : List (Tmp × (Nat → Value) × Obj)) (gs : List Nat) (n : Nat) (a : Act), gs.length = zs.length → (∀ j z, zs[j]? = some z → ds (n + j) = some z.1 ∧ vs (n + j) = z.2.1) → putE ds vs ((List.range' n zs.length).zip gs) a = putsOf zs gs a
 | [], [], n, a, _, _ => rfl
 | (d, T, k) :: zs, g :: gs, n, a, e, h => by
  have h0 := h 0 (d, T, k) rfl
  rw [Nat.add_zero] at h0
  show putE ds vs ((List.range' (n + 1) zs.length).zip gs) (a.put (ds n) (vs n g)) = _
  rw [h0.1, h0.2]
  exact putE_of ds vs zs gs (n + 1) _ (by simpa using e) fun j z hz => by
   have := h (j + 1) z (by simpa using hz)
   rwa [show n + (j + 1) = n + 1 + j by omega] at this
 | [], _ :: _, _, _, e, _ => by simp at e
 | _ :: _, [], _, _, e, _ => by simp at e
theorem doneE_of : ∀ (gs : List Nat) (n : Nat) (d : Array Bool), doneE ((List.range' n gs.length).zip gs) d = (List.range' n gs.length).foldl (fun d i => d.setIfInBounds i true) d
 | [], _, _ => rfl
 | _ :: gs, n, d => doneE_of gs (n + 1) (d.setIfInBounds n true)
theorem blks_mem : ∀ (zs : List (Tmp × (Nat → Value) × Obj)) (gs : List Nat) (n : Nat) (Zs : Nat → Obj), (∀ j z, zs[j]? = some z → Zs (n + j) = z.2.2) → ∀ b ∈ blksOf zs gs, ∃ j, (j, b.g) ∈ (List.range' n zs.length).zip gs ∧ b.Z = Zs j
 | [], _, _, _, _, b, h => by simp [blksOf] at h
 | _ :: _, [], _, _, _, b, h => by simp [blksOf] at h
 | (d, T, k) :: zs, g :: gs, n, Zs, hZ, b, h => by
  simp only [blksOf, List.mem_cons] at h
  rcases h with rfl | h
  ·have h0 := hZ 0 (d, T, k) rfl
   exact ⟨n, by simp [List.range'], by simpa using h0.symm⟩
  ·obtain ⟨j, h1, h2⟩ := blks_mem zs gs (n + 1) Zs (fun j z hz => by
    have := hZ (j + 1) z (by simpa using hz)
    rwa [show n + (j + 1) = n + 1 + j by omega] at this) b h
   refine ⟨j, ?_, h2⟩
   simp only [List.length_cons, List.range'_succ, List.zip_cons_cons, List.mem_cons]
   exact .inr h1
theorem blks_g : ∀ (zs : List (Tmp × (Nat → Value) × Obj)) (gs : List Nat), gs.length = zs.length → (blksOf zs gs).map Blk.g = gs
 | [], [], _ => rfl
 | (d, T, k) :: zs, g :: gs, e => by simp [blksOf, blks_g zs gs (by simpa using e)]
 | [], _ :: _, e => by simp at e
 | _ :: _, [], e => by simp at e
theorem sorted_of {E : List (Nat × Nat)} {n k : Nat} (hnd : (E.map Prod.fst).Nodup) (hin : ∀ p ∈ E, n ≤ p.1 ∧ p.1 < n + k) (hlen : E.length = k) : ∃ gs : List Nat, gs.length = k ∧ E.Perm ((List.range' n k).zip gs) := by
 have hex : ∀ j ∈ List.range' n k, ∃ g, (j, g) ∈ E := by
  intro j hj
  refine Classical.byContradiction fun hno => ?_
  have hni : j ∉ E.map Prod.fst := fun h => by
   obtain ⟨p, hp, rfl⟩ := List.mem_map.1 h
   exact hno ⟨p.2, hp⟩
  have hnd2 : (j :: E.map Prod.fst).Nodup := List.nodup_cons.2 ⟨hni, hnd⟩
  have hsub : (j :: E.map Prod.fst) ⊆ List.range' n k := fun x hx => by
   rcases List.mem_cons.1 hx with rfl | hx
   ·exact hj
   ·obtain ⟨p, hp, rfl⟩ := List.mem_map.1 hx
    rw [List.mem_range'_1]
    exact hin p hp
  have := hnd2.length_le_of_subset hsub
  simp at this
  omega
 have hch : ∀ l : List Nat, (∀ j ∈ l, ∃ g, (j, g) ∈ E) → ∃ gs : List Nat, gs.length = l.length ∧ ∀ p ∈ l.zip gs, p ∈ E := by
  intro l
  induction l with
  | nil => intro _; exact ⟨[], rfl, by simp⟩
  | cons j l ih =>
   intro h
   obtain ⟨g, hg⟩ := h j (by simp)
   obtain ⟨gs, h1, h2⟩ := ih fun i hi => h i (by simp [hi])
   exact ⟨g :: gs, by simp [h1], fun p hp => by
    simp only [List.zip_cons_cons, List.mem_cons] at hp
    rcases hp with rfl | hp
    ·exact hg
    ·exact h2 p hp⟩
 obtain ⟨gs, h1, h2⟩ := hch _ hex
 have hl : gs.length = k := by simpa using h1
 refine ⟨gs, hl, ?_⟩
 have hz : ((List.range' n k).zip gs).map Prod.fst = List.range' n k := by
  rw [List.map_fst_zip]
  simp [hl]
 have hndz : ((List.range' n k).zip gs).Nodup := by
  have : (((List.range' n k).zip gs).map Prod.fst).Nodup := by
   rw [hz]
   exact List.nodup_range'
  exact nodup_of_map this
 have hndE : E.Nodup := nodup_of_map hnd
 refine (List.perm_ext_iff_of_nodup hndE hndz).2 fun p => ⟨fun hp => ?_, h2 p⟩
 have h3 : p.1 ∈ ((List.range' n k).zip gs).map Prod.fst := by
  rw [hz, List.mem_range'_1]
  exact hin p hp
 obtain ⟨q, hq, he⟩ := List.mem_map.1 h3
 rw [← fst_one hnd (h2 q hq) hp he]
 exact hq
theorem rg_allocs {id : Nat} {l : List Oper} (M : Mem c L W) (n : Nat) (zs : List (Tmp × (Nat → Value) × Obj)) (hm : P.follows .mixedOrders = true) (hB : lexAllocsB .any l.toArray n (n + zs.length) = true) (hA : AllocsAt P (l.drop n) zs) (hds : (zs.map (·.1)).Nodup)
  (h0 : KL P l.toArray W (fun a' => ∀ w', AllG zs fun gs => Mem c (L ++ blksOf zs gs) w' → PL P l.toArray Q (l.drop (n + zs.length)) (putsOf zs gs a') w') (l.take n) a) : (Code.region id l.toArray true).wp P Q a W := by
 have h := h0.out
 simp only [lexAllocsB, Bool.and_eq_true, decide_eq_true_eq] at hB
 obtain ⟨⟨⟨⟨⟨⟨hsel, hn⟩, hnm⟩, hs⟩, hc⟩, hfr⟩, hlex⟩ := hB
 have hn' : n + zs.length < l.length := by simpa using hn
 have htl : (l.take n).length = n := by simp; omega
 have hdl : (l.drop (n + zs.length)).length = l.toArray.size - (n + zs.length) := by simp
 have inv : HeadInv .any l.toArray (n + zs.length) (Array.replicate l.toArray.size false) :=
  ⟨by simp, fun j oj _ hl => (by rw [getD_replicate_false] at hl; cases hl), fun t _ ht => getD_in (by simpa using ht) (getD_replicate_false _ _)⟩
 have H := HeadM.lex (md := .any) (g := l.toArray.size - (n + zs.length)) hsel hs hc hn hnm (l.take n) 0 _ a (fun j hj => by rw [htl] at hj; simp [hj]) (by simpa using htl) inv (by rw [htl]; exact hlex) h
 refine wp_region_any hm ?_
 have hget := allocsAt_get _ _ hA
 have hdsj : ∀ j z, zs[j]? = some z → (fun i => (zs[i - n]?).map (·.1)) (n + j) = some z.1 ∧ (fun i => ((zs[i - n]?).map (·.2.1)).getD (fun _ => undef)) (n + j) = z.2.1 := fun j z hz => by
  simp only
  rw [show n + j - n = j by omega, hz]
  exact ⟨rfl, rfl⟩
 have hZsj : ∀ j z, zs[j]? = some z → (fun i => ((zs[i - n]?).map fun z => z.2.2).getD (.cells #[] 0)) (n + j) = z.2.2 := fun j z hz => by
  simp only
  rw [show n + j - n = j by omega, hz]
  rfl
 have H2 := HeadM.any (Q := Q) (g := l.toArray.size - (n + zs.length)) (L := fun d a' => (Region.ready .any l.toArray d = List.range' n (n + zs.length - n) ∧ Region.seqB .any l.toArray (l.toArray.size - (n + zs.length)) (n + zs.length) (setR n (n + zs.length) d) = true) ∧ ∀ w', AllG zs fun gs => Mem c (L ++ blksOf zs gs) w' → PL P l.toArray Q (l.drop (n + zs.length)) (putsOf zs gs a') w') (ds := fun i => (zs[i - n]?).map (·.1)) (vs := fun i => ((zs[i - n]?).map (·.2.1)).getD (fun _ => undef)) (Zs := fun i => ((zs[i - n]?).map fun z => z.2.2).getD (.cells #[] 0)) hsel hs hc hn hnm hfr
  (fun j h1 h2 => by
   have hz : zs[j - n]? = some (zs[j - n]'(by omega)) := List.getElem?_eq_getElem _
   obtain ⟨o, ho, hd, hg, hr⟩ := hget (j - n) _ hz
   refine ⟨o, ?_, ?_, hg, ?_⟩
   ·rw [List.getElem?_drop, show n + (j - n) = j by omega] at ho
    simpa using ho
   ·rw [hd]
    simp only [hz, Option.map_some]
   ·intro a w
    rw [hr a w]
    simp only [hz, Option.map_some, Option.getD_some])
  (fun d a' hL => by simpa using hL.1.1)
  (fun d a' hL E w1 hnd hin hlen hK => by
   obtain ⟨gs, hgl, hp⟩ := sorted_of (n := n) (k := zs.length) hnd (fun p hp => by have := hin p hp; omega) (by omega)
   have hseq := hL.1.2
   have e1 : doneE E d = setR n (n + zs.length) d := by
    unfold doneE setR
    rw [hp.foldl_eq' (fun x _ y _ z => by
     by_cases hxy : x.1 = y.1
     ·rw [hxy]
     ·exact Array.setIfInBounds_comm _ _ hxy)]
    have := doneE_of gs n d
    unfold doneE at this
    rw [hgl] at this
    rw [this]
    congr 2
    omega
   have e2 : putE (fun i => (zs[i - n]?).map (·.1)) (fun i => ((zs[i - n]?).map (·.2.1)).getD (fun _ => undef)) E a' = putsOf zs gs a' := by
    rw [← putE_of (fun i => (zs[i - n]?).map (·.1)) (fun i => ((zs[i - n]?).map (·.2.1)).getD (fun _ => undef)) zs gs n a' hgl hdsj]
    unfold putE
    refine hp.foldl_eq' (fun x hx y hy z => ?_) _
    by_cases hxy : x = y
    ·rw [hxy]
    ·refine (Act.put_comm z _ _ fun t ht => ?_)
     intro ht2
     have hx1 := hin x hx
     have hy1 := hin y hy
     have zx : zs[x.1 - n]? = some (zs[x.1 - n]'(by omega)) := List.getElem?_eq_getElem _
     have zy : zs[y.1 - n]? = some (zs[y.1 - n]'(by omega)) := List.getElem?_eq_getElem _
     simp only [zx, zy, Option.map_some, Option.some.injEq] at ht ht2
     have hne : x.1 ≠ y.1 := fun e => hxy (fst_one hnd hx hy e)
     rcases Nat.lt_or_gt_of_ne hne with hlt | hlt
     ·exact absurd (by simp [zx, zy, ht, ht2]) (nodup_ne hds (i := x.1 - n) (j := y.1 - n) (by omega) (by simp; omega))
     ·exact absurd (by simp [zx, zy, ht, ht2]) (nodup_ne hds (i := y.1 - n) (j := x.1 - n) (by omega) (by simp; omega))
   have hM : Mem c (L ++ blksOf zs gs) w1 := by
    refine M.news hK.keep (fun b hb => ?_) (fun b hb => ?_) ?_
    ·obtain ⟨j, h1, h2⟩ := blks_mem zs gs n (fun i => ((zs[i - n]?).map fun z => z.2.2).getD (.cells #[] 0)) hZsj b hb
     rw [h2]
     exact hK.at_ _ (hp.mem_iff.2 h1)
    ·obtain ⟨j, h1, h2⟩ := blks_mem zs gs n (fun i => ((zs[i - n]?).map fun z => z.2.2).getD (.cells #[] 0)) hZsj b hb
     exact hK.ge _ (hp.mem_iff.2 h1)
    ·rw [blks_g zs gs hgl]
     have h3 := hK.nodup
     rw [(hp.map Prod.snd).nodup_iff, List.map_snd_zip (by simp [hgl])] at h3
     exact h3
   have htail := (AllG.at_ zs _ (hL.2 w1) gs hgl hM).out
   have hgo := wpAny_of_seq (md := .any) (Q' := Q) (l.drop (n + zs.length)) (n + zs.length) _ _ w1 (fun j => by simp [List.getElem?_drop]) (by rw [hdl]; exact hseq) htail
   rw [hdl] at hgo
   rw [e1, e2]
   exact hgo)
  (n + zs.length) n [] (Array.replicate l.toArray.size false) a W.drew (by simp) (by simp) (by simp) (by simp) (by simp) inv (by simpa [htl] using H) ⟨(Below.refl _ _).drew, by simp, by simp, by simp, by simp⟩
 rw [show n + zs.length + (l.toArray.size - (n + zs.length)) = l.toArray.size by omega] at H2
 exact H2
end
open Go.RowKit
def ua (x y : Int) : Int := IntKind.wrap .u64 (x + y)
def um (x y : Int) : Int := IntKind.wrap .u64 (x * y)
def un (x y : Int) : Int := IntKind.wrap .u64 (BitVec.ofInt 64 x &&& BitVec.ofInt 64 y).toNat
def uo (x y : Int) : Int := IntKind.wrap .u64 (BitVec.ofInt 64 x ||| BitVec.ofInt 64 y).toNat
def sl (x : Int) (n : Nat) : Int := IntKind.wrap .u64 (x * 2 ^ n)
def sr (x : Int) (n : Nat) : Int := x.fdiv (2 ^ n)
def va (x y : Int) : Int := IntKind.wrap .u32 (x + y)
def vx (x y : Int) : Int := IntKind.wrap .u32 (BitVec.ofInt 32 x ^^^ BitVec.ofInt 32 y).toNat
def vo (x y : Int) : Int := IntKind.wrap .u32 (BitVec.ofInt 32 x ||| BitVec.ofInt 32 y).toNat
def vt (x : Int) : Int := vx 4294967295 x
def vl (x : Int) (n : Nat) : Int := IntKind.wrap .u32 (x * 2 ^ n)
def wi (f : NI) : Nat → Value := fun i => .int .i64 (f i)
def cv (k : IntKind) (x : Int) : Int := IntKind.wrap k x
theorem put_w64 (f : NI) (k : Nat) (v : Int) (j : Nat) : (if j = k then .int .u64 v else w64 f j) = w64 (upd f k v) j := by
 unfold w64 upd
 split <;> rfl
theorem put_w8 (f : NI) (k : Nat) (v : Int) (j : Nat) : (if j = k then .int .u8 v else w8 f j) = w8 (upd f k v) j := by
 unfold w8 upd
 split <;> rfl
theorem put_w32 (f : NI) (k : Nat) (v : Int) (j : Nat) : (if j = k then .int .u32 v else w32 f j) = w32 (upd f k v) j := by
 unfold w32 upd
 split <;> rfl
theorem put_wi (f : NI) (k : Nat) (v : Int) (j : Nat) : (if j = k then .int .i64 v else wi f j) = wi (upd f k v) j := by
 unfold wi upd
 split <;> rfl
section
variable {P : Program} {ops : Array Oper} {rest : List Oper} {o : Oper} {a : Act} {w : World} {c : Ctx} {L : List Blk} {Q : Exit → Act → World → Prop}
theorem au_loop {c : Code} (I : Nat → Act → World → Prop) (N : Nat) (h0 : I 0 a w) (round : ∀ j a w, j < N → I j a w → c.wp P (Exit.then (I (j + 1)) Q) a w) (last : ∀ a w, I N a w → c.wp P (Exit.then (fun _ _ => False) Q) a w) : (Code.loop c).wp P Q a w := by
 refine wp_loop_ghost (fun n a w => n ≤ N ∧ I (N - n) a w) N ⟨Nat.le_refl _, by rw [Nat.sub_self]; exact h0⟩ fun n a w ⟨hn, hI⟩ => ?_
 cases n with
 | zero =>
  rw [Nat.sub_zero] at hI
  refine wp_mono (last a w hI) fun e a' w' hq => ?_
  cases e <;> first | exact hq | exact hq.elim
 | succ n =>
  refine wp_mono (round (N - (n + 1)) a w (by omega) hI) fun e a' w' hq => ?_
  rw [show N - (n + 1) + 1 = N - n by omega] at hq
  cases e <;> first | exact hq | exact ⟨n, by omega, by omega, hq⟩
theorem add_at (g o i : Nat) : (⟨g, o, none⟩ : Addr).add i = ⟨g, o + i, none⟩ := by unfold Addr.add; split <;> simp_all
theorem run_ix1 (t : TypeId) (len : Nat) (elem : TypeId) (hu : P.underlying t = some (.array len elem)) (hs : (P.info? elem).map (·.size) = some 1) (x ix : Operand) (ho : o.op = .indexAddr t x ix) (g : Nat) (hx : a.eval x = .pointer (some ⟨g, 0, none⟩)) (k : IntKind) (i : Nat) (hi : a.eval ix = .int k (i : Int)) (hlt : i < len) (w : World) :
  (execOp a.eval o).run P w = .ok (.value (.pointer (some ⟨g, i, none⟩))) w := by
 cases hq : P.info? elem with
 | none => simp [hq] at hs
 | some u =>
  have hsz : u.size = 1 := by simpa [hq] using hs
  unfold execOp
  simp [ho, hx, hi, Instr.indexAt, Instr.sureAddr, asIntOf, run_underlying hu, sizeOf, typeInfo, hq, hsz, add_at, hlt]
theorem run_ixA (t : TypeId) (len : Nat) (elem : TypeId) (hu : P.underlying t = some (.array len elem)) (hs : (P.info? elem).map (·.size) = some 1) (hag : ∀ w, (isAgg elem).run P w = .ok false w) (x ix : Operand) (ho : o.op = .index t x ix) (F : NV) (hx : a.eval x = .agg (av len F)) (k : IntKind) (i : Nat) (hi : a.eval ix = .int k (i : Int)) (hlt : i < len) {v : Value} (hv : F i = v) (w : World) :
  (execOp a.eval o).run P w = .ok (.value v) w := by
 cases hq : P.info? elem with
 | none => simp [hq] at hs
 | some u =>
  have hsz : u.size = 1 := by simpa [hq] using hs
  have hg := av_get len F i hlt
  unfold execOp
  simp [ho, hx, hi, Instr.index, asIntOf, run_underlying hu, sizeOf, typeInfo, hq, hsz, hlt, part, hag, hg, hv]
theorem results_tmp1 {fn : Func} {p : Tmp} (h : fn.results = #[.tmp p]) (tmps : Array Value) (w : World) (v : Value) (hp : tmps.getD p undef = v) : (results fn tmps).run P w = .ok v w := by
 have hp' : tmps[p]?.getD undef = v := by simpa using hp
 simp [results, h, hp']
theorem results_none {fn : Func} (h : fn.results = #[]) (tmps : Array Value) (w : World) : (results fn tmps).run P w = .ok (.tuple #[]) w := by
 simp [results, h]
theorem pl_copyB (M : Mem c L w) (hw : Region.wanted o (yielded ops a.tmps) = true) (d : Option Tmp) (hd : o.dst = d) (dT sT ty elem : TypeId) (hu : P.underlying dT = some (.slice elem)) (hz : (P.info? elem).map (·.size) = some 1) (i g n T : Nat) (F : NV) (hi : L[i]? = some ⟨g, .cells (av n F) T⟩) (i2 g2 n2 T2 : Nat) (F2 : NV) (hi2 : L[i2]? = some ⟨g2, .cells (av n2 F2) T2⟩) (od dl dc os sl sc k : Nat) (hk : k = Nat.min sl dl) (hd1 : od + k ≤ n) (hs1 : os + k ≤ n2) (h1 : ∀ j, j < n2 → (F2 j).oneCell' = true) (Fn : NV) (hfn : ∀ j, j < n → (if od ≤ j ∧ j < od + k then F2 (os + (j - od)) else F j) = Fn j)
  (hrun : ∀ w, (execOp a.eval o).run P w = (do pure (Next.value (← Builtin.copy_ #[dT, sT] ty #[.slice (some ⟨g, od, none⟩) dl dc, .slice (some ⟨g2, os, none⟩) sl sc]))).run P w)
  (h : ∀ w', Mem c (L.set i ⟨g, .cells (av n Fn) T⟩) w' → PL P ops Q rest (a.put d (goInt k)) w') : PL P ops Q (o :: rest) a w := by
 have R := M.get i hi
 have R2 := M.get i2 hi2
 have hl : (av k (fun j => F2 (os + j))).toList.length = k := by simp [av_size]
 have hr := run_copy_cells (P := P) w dT sT ty elem g od dl dc ⟨g2, os, none⟩ sl sc (av k (fun j => F2 (os + j))).toList hu hz (by rw [hl, hk])
  (fun j v hv => by
   obtain ⟨hj, rfl⟩ := av_toList_get _ _ _ _ hv
   rw [add_at]
   exact cell_av R2 (by omega))
  (fun j hj => by rw [hl] at hj; rw [cell_av R (by omega)]; rfl) (fun j hj => free_av R _)
  (fun v hv => by
   obtain ⟨j, hj⟩ := List.mem_iff_getElem?.1 hv
   obtain ⟨hj', rfl⟩ := av_toList_get _ _ _ _ hj
   exact h1 _ (by omega))
 rw [hl] at hr
 refine pl_to hw d hd (goInt k) _ ?_ (h _ (M.put i ⟨g, _⟩ hi _ (grown_setCells g _ _ _) (by rw [heap_setCells g T _ w _ od R, setAll_av n F (fun j => F2 (os + j)) Fn od k hd1 hfn])))
 rw [hrun]
 simp only [Sem.run_bind, hr, Result.andThen_ok, Sem.run_pure]
def bt (s : Yb) (i : Nat) : Int := ((s.data[i]?.getD 0).toNat : Int)
theorem bt_nn (s : Yb) (i : Nat) : 0 ≤ bt s i ∧ bt s i < 256 := by
 unfold bt
 have := (s.data[i]?.getD 0).toNat_lt
 omega
theorem bytes_take (s : Yb) (k : Nat) (hk : k ≤ s.size) : List.take k (List.map (fun b : UInt8 => Value.int .u8 b.toNat) s.data.toList) = (av k (w8 (bt s))).toList := by
 have hsd : s.data.size = s.size := rfl
 apply List.ext_getElem?
 intro i
 by_cases hi : i < k
 ·have e : (av k (w8 (bt s))).toList[i]? = some (w8 (bt s) i) := by rw [Array.getElem?_toList, av_get k _ i hi]
  rw [e, List.getElem?_take_of_lt hi, List.getElem?_map, Array.getElem?_toList]
  unfold w8 bt
  rw [Array.getElem?_eq_getElem (by omega)]
  rfl
 ·rw [List.getElem?_eq_none (by simp; omega), List.getElem?_eq_none (by simp [av_size]; omega)]
theorem pl_copyS (M : Mem c L w) (hw : Region.wanted o (yielded ops a.tmps) = true) (d : Option Tmp) (hd : o.dst = d) (dT sT ty elem : TypeId) (hu : P.underlying dT = some (.slice elem)) (hz : (P.info? elem).map (·.size) = some 1) (i g n T : Nat) (F : NV) (hi : L[i]? = some ⟨g, .cells (av n F) T⟩) (od dl dc : Nat) (s : Yb) (k : Nat) (hk : k = Nat.min s.size dl) (hd1 : od + k ≤ n) (Fn : NV) (hfn : ∀ j, j < n → (if od ≤ j ∧ j < od + k then w8 (bt s) (j - od) else F j) = Fn j)
  (hrun : ∀ w, (execOp a.eval o).run P w = (do pure (Next.value (← Builtin.copy_ #[dT, sT] ty #[.slice (some ⟨g, od, none⟩) dl dc, .string s]))).run P w)
  (h : ∀ w', Mem c (L.set i ⟨g, .cells (av n Fn) T⟩) w' → PL P ops Q rest (a.put d (goInt k)) w') : PL P ops Q (o :: rest) a w := by
 have R := M.get i hi
 have hks : k ≤ s.size := by rw [hk]; exact Nat.min_le_left _ _
 have hl : (av k (w8 (bt s))).toList.length = k := by simp [av_size]
 have hst := run_storeCells_cells (P := P) g od (av k (w8 (bt s))).toList 0 w (fun j hj => by rw [hl] at hj; rw [Nat.add_zero, cell_av R (by omega)]; rfl) (fun j _ => free_av R _)
  (fun v hv => by
   obtain ⟨j, hj⟩ := List.mem_iff_getElem?.1 hv
   obtain ⟨hj', rfl⟩ := av_toList_get _ _ _ _ hj
   rfl)
 have hb := bytes_take s k hks
 refine pl_to hw d hd (goInt k) _ ?_ (h _ (M.put i ⟨g, _⟩ hi _ (grown_setCells g _ _ _) (by rw [heap_setCells g T _ w _ od R, setAll_av n F (w8 (bt s)) Fn od k hd1 hfn])))
 rw [hrun]
 cases hq : P.info? elem with
 | none => simp [hq] at hz
 | some t =>
  simp only [Nat.add_zero] at hst
  have e : (Builtin.copy_ #[dT, sT] ty #[.slice (some ⟨g, od, none⟩) dl dc, .string s]).run P w = .ok (goInt k) (w.setCells g od (av k (w8 (bt s))).toList) := by
   simp only [Builtin.copy_, List.getElem?_toArray, List.getElem?_cons_zero, List.getElem?_cons_succ, Sem.run_bind, run_underlying hu, Result.andThen_ok, Builtin.lenOf, Sem.run_pure, Builtin.firstCells, sizeOf, typeInfo, ← hk]
   simp [hq, hb, hst]
  simp only [Sem.run_bind, e, Result.andThen_ok, Sem.run_pure]
end
theorem results_tmp2 {P : Program} {fn : Func} {p q : Tmp} (h : fn.results = #[.tmp p, .tmp q]) (tmps : Array Value) (w : World) (v u : Value) (hp : tmps.getD p undef = v) (hq : tmps.getD q undef = u) : (results fn tmps).run P w = .ok (.tuple #[v, u]) w := by
 have hp' : tmps[p]?.getD undef = v := by simpa using hp
 have hq' : tmps[q]?.getD undef = u := by simpa using hq
 simp [results, h, hp', hq']
section
variable {P : Program} {ops : Array Oper} {Q : Exit → Act → World → Prop} {md : Region.Mode} {S : World → Prop} {n : Nat}
def wpAnyL (P : Program) (md : Region.Mode) (ops : Array Oper) (Q : Exit → Act → World → Prop) (S : World → Prop) (n : Nat) : Nat → Array Bool → Act → World → Prop
 | 0, listed, a, w => Region.ready md ops listed = [] ∧ Q .normal a w
 | fuel + 1, listed, a, w =>
  (Region.ready md ops listed = [] → Q .normal a w) ∧
  ∀ i ∈ Region.ready md ops listed, wpOp P ops Q i (fun a' w' => (i < n → S w') ∧ wpAnyL P md ops Q S n fuel (listed.setIfInBounds i true) a' w') a w
theorem wpAny_of_L : ∀ (fuel : Nat) (listed : Array Bool) (a : Act) (w : World), wpAnyL P md ops Q S n fuel listed a w → wpAny P md ops Q fuel listed a w
 | 0, _, _, _, h => h
 | fuel + 1, _, _, _, h => ⟨h.1, fun i hi => wpOp_mono (fun a' w' h' => wpAny_of_L fuel _ a' w' h'.2) (h.2 i hi)⟩
theorem wpAnyL_first {i : Nat} {oi : Oper} {v : Value} (hi : ops[i]? = some oi) (hin : i < n) (hs : Region.sinkB md ops n = true) (hc : Region.chainB md ops n = true) (hn : n < ops.size) (hsel : ∀ (j : Nat) (o : Oper) cs b, ops[j]? = some o → o.op ≠ .select cs b)
  (hQ : ∀ c a w, Q (.panic c) (a.put oi.dst v) w → Q (.panic c) a w) :
  ∀ (fuel : Nat) (listed : Array Bool) (a : Act) (w : World), HeadInv md ops n listed →
   (∀ j oj, ops[j]? = some oj → j ≠ i → listed.getD j true = false → (∀ e ∈ oj.after, Region.binds md e = true → e.on ≠ i) → oi.apart ops oj = true) →
   i ∈ Region.ready md ops listed → YieldsIf P ops S oi v a → S w →
   wpAnyL P md ops Q S n fuel (listed.setIfInBounds i true) (a.put oi.dst v) w → wpAnyL P md ops Q S n (fuel + 1) listed a w := by
 intro fuel
 induction fuel with
 | zero =>
  intro listed a w _ _ hr hy hS H
  refine ⟨fun h => (by rw [h] at hr; cases hr), fun j hj => ?_⟩
  by_cases hji : j = i
  ·subst hji
   exact hy.wpOp hi hS ⟨fun _ => hS, H⟩
  ·have h2 := ready_mono hj hji
   rw [H.1] at h2
   cases h2
 | succ fuel ih =>
  intro listed a w inv hfree hr hy hS H
  refine ⟨fun h => (by rw [h] at hr; cases hr), fun j hj => ?_⟩
  by_cases hji : j = i
  ·subst hji
   exact hy.wpOp hi hS ⟨fun _ => hS, H⟩
  ·have h1 := H.2 j (ready_mono hj hji)
   obtain ⟨hjun, oj, hoj, hall⟩ := mem_ready.1 hj
   have hun := (mem_ready.1 hr).1
   have hjn : j < n := Nat.lt_of_not_le fun h => tail_waits hs hc hn inv _ i rfl hin hun j h hj
   have hnot : ∀ e ∈ oj.after, Region.binds md e = true → e.on ≠ i := fun e he hb heq => by
    have h1 := hall e he hb
    rw [heq, getD_both hun] at h1
    cases h1
   have h2 := wpOp_putIf hoj (hfree j oj hoj hji hjun hnot) (fun cs b => hsel i oi cs b hi) (fun cs b => hsel j oj cs b hoj) hQ hy h1
   have hfree' : ∀ k ok, ops[k]? = some ok → k ≠ i → (listed.setIfInBounds j true).getD k true = false → (∀ e ∈ ok.after, Region.binds md e = true → e.on ≠ i) → oi.apart ops ok = true := fun k ok hk hki hku hkn => by
    refine hfree k ok hk hki ?_ hkn
    by_cases hjk : j = k
    ·subst hjk
     exact hjun
    ·rw [getD_set_ne true hjk] at hku
     exact hku
   refine wpOp_mono (fun a' w' h3 => ⟨fun _ => h3.2.1 hjn, ih (listed.setIfInBounds j true) a' w' (inv.set hj hjn) hfree' (ready_mono hr (Ne.symm hji)) h3.1 (h3.2.1 hjn) ?_⟩) h2
   rw [Array.setIfInBounds_comm _ _ hji]
   exact h3.2.2
end
structure HL (P : Program) (ops : Array Oper) (Q : Exit → Act → World → Prop) (S : World → Prop) (n : Nat) (fuel : Nat) (listed : Array Bool) (a : Act) (w : World) : Prop where
 out : (∀ c a d v w, Q (.panic c) (Act.put a d v) w → Q (.panic c) a w) → (Region.sinkB .any ops n = true ∧ Region.chainB .any ops n = true ∧ n < ops.size ∧ Region.noSelect ops = true) → HeadInv .any ops n listed → wpAnyL P .any ops Q S n fuel listed a w
section
variable {P : Program} {ops : Array Oper} {o : Oper} {a : Act} {w : World} {c : Ctx} {L : List Blk} {Q : Exit → Act → World → Prop} {S : World → Prop} {n fuel : Nat} {listed : Array Bool}
theorem rg_held {id : Nat} {l : List Oper} (M : Mem c L w) (Ls : List Blk) (n : Nat) (hn : l.length = n + 1) (hm : P.follows .mixedOrders = true) (hB : (Region.sinkB .any l.toArray n && Region.chainB .any l.toArray n && Region.noSelect l.toArray) = true) (hQ : ∀ c a d v w, Q (.panic c) (Act.put a d v) w → Q (.panic c) a w)
  (h : ∀ w', Mem c L w' → HL P l.toArray Q (Mem c Ls) n (n + 1) (Array.replicate (n + 1) false) a w') : (Code.region id l.toArray true).wp P Q a w := by
 simp only [Bool.and_eq_true] at hB
 have hsz : l.toArray.size = n + 1 := by simpa using hn
 have inv : HeadInv .any l.toArray n (Array.replicate (n + 1) false) :=
  ⟨by simpa using hn.symm, fun j oj _ hl => (by rw [getD_replicate_false] at hl; cases hl), fun t _ ht => getD_in (by simp; omega) (getD_replicate_false _ _)⟩
 have h2 := (h w.drew M.drew).out hQ ⟨hB.1.1, hB.1.2, by omega, hB.2⟩ inv
 refine wp_region_any hm (wpAny_of_L (S := Mem c Ls) (n := n) _ _ _ _ ?_)
 rw [hsz]
 exact h2
theorem hl_val (M : S w) (i : Nat) (hi : ops.toList[i]? = some o) (hin : i < n) (hf : Region.free .any ops listed i = true) (hr : (Region.ready .any ops listed).contains i = true) (hw : Region.wanted o (yielded ops a.tmps) = true) (d : Option Tmp) (hd : o.dst = d) (v : Value) (hrun : ∀ w, S w → (execOp a.eval o).run P w = .ok (.value v) w)
  (h : HL P ops Q S n fuel (listed.setIfInBounds i true) (a.put d v) w) : HL P ops Q S n (fuel + 1) listed a w := by
 subst hd
 have hi' : ops[i]? = some o := by rw [← Array.getElem?_toList]; exact hi
 have hr' : i ∈ Region.ready .any ops listed := by simpa using hr
 exact ⟨fun hQ hB inv => wpAnyL_first hi' hin hB.1 hB.2.1 hB.2.2.1 (Region.noSelect_spec hB.2.2.2) (fun c a w h => hQ c a _ _ w h) fuel listed a w inv (Region.free_spec hi' hf) hr' (.inl ⟨hw, hrun⟩) M (h.out hQ hB (inv.set hr' hin))⟩
theorem hl_cell {Ls : List Blk} (M : Mem c Ls w) (i : Nat) (hi : ops.toList[i]? = some o) (hin : i < n) (hf : Region.free .any ops listed i = true) (hr : (Region.ready .any ops listed).contains i = true) (hw : Region.wanted o (yielded ops a.tmps) = true) (d : Option Tmp) (hd : o.dst = d) (ty : TypeId) (x : Operand) (ho : o.op = .load ty x) (g off : Nat) (hx : a.eval x = .pointer (some ⟨g, off, none⟩)) (v : Value) (hag : ∀ w, (isAgg ty).run P w = .ok false w) (hc : ∀ w, Mem c Ls w → w.cell? ⟨g, off, none⟩ = some v)
  (h : HL P ops Q (Mem c Ls) n fuel (listed.setIfInBounds i true) (a.put d v) w) : HL P ops Q (Mem c Ls) n (fuel + 1) listed a w :=
 hl_val M i hi hin hf hr hw d hd v (fun w' M' => by
  have hr := run_cell (P := P) (hc w' M') ty hag
  unfold execOp
  simp only [ho, hx, Sem.run_bind, hr, Result.andThen_ok, Sem.run_pure]) h
theorem hl_load {Ls : List Blk} (M : Mem c Ls w) (i : Nat) (hi : ops.toList[i]? = some o) (hin : i < n) (hf : Region.free .any ops listed i = true) (hr : (Region.ready .any ops listed).contains i = true) (hw : Region.wanted o (yielded ops a.tmps) = true) (d : Option Tmp) (hd : o.dst = d) (ty : TypeId) (x : Operand) (ho : o.op = .load ty x) (j g off : Nat) (hx : a.eval x = .pointer (some ⟨g, off, none⟩)) (m T : Nat) (F : NV) (hj : Ls[j]? = some ⟨g, .cells (av m F) T⟩)
  (k : Nat) (F' : NV) (hp : ∀ j, j < k → F (off + j) = F' j) (hk : off + k ≤ m) (t : TypeDesc) (hu : P.underlying ty = some t) (ht : t.isRow = true) (hz : (P.info? ty).map (·.size) = some k)
  (h : HL P ops Q (Mem c Ls) n fuel (listed.setIfInBounds i true) (a.put d (.agg (av k F'))) w) : HL P ops Q (Mem c Ls) n (fuel + 1) listed a w :=
 hl_val M i hi hin hf hr hw d hd _ (fun w' M' => by
  unfold execOp
  have hl := run_loadAt_mid (P := P) w' g off ty (av k F').toList t (range_av (M'.get j hj) off k F' hk hp) hu ht (by rw [hz]; simp [av_size])
  simp only [ho, hx, Sem.run_bind, hl, Result.andThen_ok, Sem.run_pure, Array.toArray_toList]) h
theorem wp_unthen {X K : Act → World → Prop} (h : o.wp P a w X (Exit.then K Q)) : o.wp P a w X Q := by
 unfold Oper.wp at *
 generalize (execOp a.eval o).run P w = r at *
 cases r with
 | ok n w' =>
  cases n <;> simp only [Oper.upon] at h ⊢ <;>
   first
    | exact h
    | exact Calls.mono h (fun e w'' he => by cases e <;> exact he)
 | halt x w' => cases x <;> simp only [Oper.upon] at h ⊢ <;> exact h
theorem wpOp_one {i : Nat} {K : Act → World → Prop} (hi : ops[i]? = some o) (h : wpList P ops (Exit.then K Q) [o] a w) : wpOp P ops Q i K a w := by
 unfold wpOp
 simp only [hi]
 unfold wpList at h
 split
 ·rename_i hw
  rw [if_pos hw] at h
  rcases h with h | ⟨h, a', w', h2⟩
  ·exact .inl (Oper.wp_mono (fun a' w' h2 => h2) (wp_unthen h))
  ·exact .inr ⟨h, a', w', h2⟩
 ·rename_i hw
  rw [if_neg hw] at h
  exact h
theorem hl_one (i : Nat) (hin : i < n) (hr : Region.ready .any ops listed = [i]) (hi : ops.toList[i]? = some o)
  (h : PL P ops (Exit.then (fun a' w' => S w' ∧ HL P ops Q S n fuel (listed.setIfInBounds i true) a' w') Q) [o] a w) : HL P ops Q S n (fuel + 1) listed a w := by
 refine ⟨fun hQ hB inv => ⟨fun h0 => (by rw [hr] at h0; cases h0), fun j hj => ?_⟩⟩
 have hj' := hj
 rw [hr] at hj
 obtain rfl := List.mem_singleton.1 hj
 refine wpOp_mono (fun a' w' h2 => ⟨fun _ => h2.1, h2.2.out hQ hB (inv.set hj' hin)⟩) (wpOp_one (by rw [← Array.getElem?_toList]; exact hi) h.out)
theorem hl_end (hr : Region.ready .any ops listed = [n]) (hr2 : Region.ready .any ops (listed.setIfInBounds n true) = []) (hi : ops.toList[n]? = some o)
  (h : PL P ops (Exit.then (fun a' w' => Q .normal a' w') Q) [o] a w) : HL P ops Q S n (fuel + 1) listed a w := by
 refine ⟨fun hQ hB inv => ⟨fun h0 => (by rw [hr] at h0; cases h0), fun j hj => ?_⟩⟩
 rw [hr] at hj
 obtain rfl := List.mem_singleton.1 hj
 refine wpOp_mono (fun a' w' h2 => ⟨fun h => absurd h (Nat.lt_irrefl _), ?_⟩) (wpOp_one (by rw [← Array.getElem?_toList]; exact hi) h.out)
 cases fuel with
 | zero => exact ⟨hr2, h2⟩
 | succ f => exact ⟨fun _ => h2, fun k hk => by rw [hr2] at hk; cases hk⟩
end
end Go.Proofs.YtffimigpbcilbaaGreatDoor
