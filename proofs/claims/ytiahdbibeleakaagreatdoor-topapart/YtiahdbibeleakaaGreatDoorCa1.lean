/- Part 1 of the walks and facts. -/
import Derived.Test.YtiahdbibeleakaaGreatDoorCaDef
import Derived.BigQuiet
import Derived.Deep.AppendSrc
import Derived.Deep.LoopGhost
import Derived.Deep.MidRow
import Derived.Laws.AppendOwn
import Derived.Laws.Bits64
import Derived.Laws.BitsAllLaws
import Derived.Laws.BytesString
import Derived.Laws.IdiomStrings
import Derived.Laws.MakeOwn
import Derived.Laws.Rows
import Derived.LoopN
import Derived.LoopNIn
import Derived.OrdersHeld
import Derived.OrdersIn
import Derived.RangeFuncLeaves
import Derived.RangeFuncRecord
import Derived.RegionTactic
import Derived.Shelf.Strings.Builder2
import Derived.Shelf.Strings.BuilderK
import Derived.StillTail
import Derived.TacticsIn
import Derived.Test.YtiahdbibeleakaaGreatDoorProg
import Derived.Test.YtiahdbibeleakaaGreatDoorRows
import Derived.WalkKit
import Derived.WalkLawsBesides
import Derived.WalkSpells
set_option maxHeartbeats 16000000
set_option maxRecDepth 100000
set_option linter.unusedSimpArgs false
set_option linter.unusedVariables false
namespace Go.Proofs.YtiahdbibeleakaaGreatDoor
open Go.RowKit
section
variable {P : Program} {ops : Array Oper} {md : Region.Mode} {C : World → Prop}
def HeadQ (P : Program) (md : Region.Mode) (ops : Array Oper) (C : World → Prop) (n : Nat) (L : Array Bool → Act → Prop) : Nat → Array Bool → Act → Prop
 | 0, done, a => L done a
 | f + 1, done, a => Region.ready md ops done ≠ [] ∧ ∀ i ∈ Region.ready md ops done, i < n ∧ qOp P ops C i (HeadQ P md ops C n L f (done.setIfInBounds i true)) a
theorem HeadQ.any {n g : Nat} {L : Array Bool → Act → Prop} {Q : Exit → Act → World → Prop} (hL : ∀ done a w, C w → L done a → wpAny P md ops Q g done a w) :
  ∀ (f : Nat) (done : Array Bool) (a : Act) (w : World), C w → HeadQ P md ops C n L f done a → wpAny P md ops Q (f + g) done a w := by
 intro f
 induction f with
 | zero =>
  intro done a w hw h
  rw [Nat.zero_add]
  exact hL done a w hw h
 | succ f ih =>
  intro done a w hw h
  have e : f + 1 + g = (f + g) + 1 := by omega
  rw [e]
  exact ⟨fun h0 => absurd h0 h.1, fun i hi => wpOp_of_qOp hw (fun a' w' hw' h' => ih _ a' w' hw' h') (h.2 i hi).2⟩
theorem HeadQ.first {n i : Nat} {oi : Oper} {v : Value} {L : Array Bool → Act → Prop} (hi : ops[i]? = some oi) (hsel : ∀ (j : Nat) (o : Oper) cs b, ops[j]? = some o → o.op ≠ .select cs b)
  (hs : Region.sinkB md ops n = true) (hc : Region.chainB md ops n = true) (hn : n < ops.size) (hin : i < n) (hend : ∀ done a, L done a → ∀ j ∈ Region.ready md ops done, n ≤ j) :
  ∀ (f : Nat) (done : Array Bool) (a : Act), HeadInv md ops n done →
   (∀ j oj, ops[j]? = some oj → j ≠ i → done.getD j true = false → (∀ e ∈ oj.after, Region.binds md e = true → e.on ≠ i) → oi.apart ops oj = true) →
   i ∈ Region.ready md ops done → YieldsIn P ops C oi v a → HeadQ P md ops C n L f (done.setIfInBounds i true) (a.put oi.dst v) → HeadQ P md ops C n L (f + 1) done a := by
 intro f
 induction f with
 | zero =>
  intro done a inv _ hr hy H
  refine ⟨fun h => (by rw [h] at hr; cases hr), fun j hj => ?_⟩
  have hjn : j < n := Nat.lt_of_not_le fun h => tail_waits hs hc hn inv _ i rfl hin (mem_ready.1 hr).1 j h hj
  refine ⟨hjn, ?_⟩
  by_cases hji : j = i
  ·subst hji
   exact hy.qOp hi H
  ·have := hend _ _ H j (ready_mono hj hji)
   omega
 | succ f ih =>
  intro done a inv hfree hr hy H
  have hun := (mem_ready.1 hr).1
  refine ⟨fun h => (by rw [h] at hr; cases hr), fun j hj => ?_⟩
  have hjn : j < n := Nat.lt_of_not_le fun h => tail_waits hs hc hn inv _ i rfl hin hun j h hj
  refine ⟨hjn, ?_⟩
  by_cases hji : j = i
  ·subst hji
   exact hy.qOp hi H
  ·obtain ⟨hjun, oj, hoj, hall⟩ := mem_ready.1 hj
   have hno : ∀ e ∈ oj.after, Region.binds md e = true → e.on ≠ i := by
    intro e he hb heq
    have h1 := hall e he hb
    rw [heq, getD_both hun] at h1
    cases h1
   have h2 := qOp_put hoj (hfree j oj hoj hji hjun hno) (fun cs b => hsel i oi cs b hi) (fun cs b => hsel j oj cs b hoj) hy (H.2 j (ready_mono hj hji)).2
   refine qOp_mono (fun a' h3 => ih (done.setIfInBounds j true) a' (inv.set hj hjn) ?_ (ready_mono hr (Ne.symm hji)) h3.1 ?_) h2
   ·intro k ok hk hki hku hkn
    refine hfree k ok hk hki ?_ hkn
    by_cases hjk : j = k
    ·subst hjk
     exact hjun
    ·rw [getD_set_ne true hjk] at hku
     exact hku
   ·rw [Array.setIfInBounds_comm _ _ hji]
    exact h3.2
theorem HeadQ.lex {n g : Nat} {K : Act → Prop} (hsel : Region.noSelect ops = true) (hs : Region.sinkB md ops n = true) (hc : Region.chainB md ops n = true) (hn : n < ops.size) (l : List Oper) :
  ∀ (k : Nat) (done : Array Bool) (a : Act), (∀ j, j < l.length → l[j]? = ops[k + j]?) → k + l.length = n → HeadInv md ops n done →
  Region.lexHead md ops g l.length k done = true → wpQuiet P ops C K l a → HeadQ P md ops C n (fun d a' => Region.seqB md ops g n d = true ∧ K a') l.length done a := by
 induction l with
 | nil =>
  intro k done a _ hk _ hB h
  have e : k = n := by simpa using hk
  subst e
  exact ⟨by simpa [Region.lexHead] using hB, h⟩
 | cons o l ih =>
  intro k done a hl hk inv hB h
  have h0 : ops[k]? = some o := by simpa using (hl 0 (by simp)).symm
  simp only [List.length_cons, Region.lexHead, Bool.and_eq_true] at hB
  simp only [List.length_cons] at hk
  have hr : k ∈ Region.ready md ops done := by simpa using hB.1.1
  have hq : qOp P ops C k (wpQuiet P ops C K l) a := by
   unfold qOp
   simp only [h0]
   exact h
  obtain ⟨v, hy, hK⟩ := yieldsIn_of_qOp h0 hq
  refine HeadQ.first h0 (Region.noSelect_spec hsel) hs hc hn (by omega) (fun d a' hL => seqB_ready hL.1) l.length done a inv (Region.free_spec h0 hB.1.2) hr hy ?_
  refine ih (k + 1) _ _ (fun j hj => ?_) (by omega) (inv.set hr (by omega)) hB.2 hK
  have := hl (j + 1) (by simp; omega)
  simpa [Nat.add_assoc, Nat.add_comm 1 j] using this
theorem wp_region_quiet_tail {id : Nat} {Q : Exit → Act → World → Prop} {a : Act} {w : World} {l : List Oper} (n : Nat) (hm : P.follows .mixedOrders = true) (hB : Region.lexTailB .any l.toArray n = true) (hC : C { w with drawn := w.drawn + 1 })
  (h : wpQuiet P l.toArray C (fun a' => ∀ w', C w' → wpList P l.toArray Q (l.drop n) a' w') (l.take n) a) : (Code.region id l.toArray true).wp P Q a w := by
 simp only [Region.lexTailB, Bool.and_eq_true, decide_eq_true_eq] at hB
 obtain ⟨⟨⟨⟨hsel, hn⟩, hs⟩, hc⟩, hlex⟩ := hB
 have hn' : n < l.length := by simpa using hn
 have htl : (l.take n).length = n := by simp; omega
 have hdl : (l.drop n).length = l.toArray.size - n := by simp
 have inv : HeadInv .any l.toArray n (Array.replicate l.toArray.size false) :=
  ⟨by simp, fun j oj _ hl => (by rw [getD_replicate_false] at hl; cases hl), fun t _ ht => getD_in (by simpa using ht) (getD_replicate_false _ _)⟩
 have H := HeadQ.lex (md := .any) (g := l.toArray.size - n) hsel hs hc hn (l.take n) 0 _ a (fun j hj => by rw [htl] at hj; simp [hj]) (by simpa using htl) inv (by rw [htl]; exact hlex) h
 refine wp_region_any hm ?_
 have H2 := HeadQ.any (Q := Q) (g := l.toArray.size - n) (fun done a' w' hw' hL => by
  have := wpAny_of_seq (md := .any) (Q' := Q) (l.drop n) n done a' w' (fun j => by simp [List.getElem?_drop]) (by rw [hdl]; exact hL.1) (hL.2 w' hw')
  rwa [hdl] at this) _ _ _ _ hC H
 rw [htl, show n + (l.toArray.size - n) = l.toArray.size by omega] at H2
 exact H2
structure KW (W : World) where
 w : World
 keep : Below W.heap.size W w
def KW.next {W : World} (s : KW W) (w' : World) (h : Below s.w.heap.size s.w w') : KW W := ⟨w', s.keep.trans (h.mono s.keep.size)⟩
theorem KW.drew (W : World) : ∃ s : KW W, ({ W with drawn := W.drawn + 1 } : World) = s.w := ⟨⟨W.drew, (Below.refl _ _).drew⟩, rfl⟩
theorem keep_of {W : World} {s : KW W} {f : FuncId} {args : Array Value} {v : Value}
  (h : Calls P f args s.w fun e w' => e = .returned v ∧ Below s.w.heap.size s.w w') : Calls P f args s.w fun e w'' => e = .returned v ∧ ∃ t : KW W, w'' = t.w :=
 h.mono fun _ w' ⟨he, hb⟩ => ⟨he, s.next w' hb, rfl⟩
theorem wp_region_keep_tail {id : Nat} {Q : Exit → Act → World → Prop} {a : Act} {w : World} {l : List Oper} (n : Nat) (hm : P.follows .mixedOrders = true) (hB : Region.lexTailB .any l.toArray n = true)
  (h : wpQuiet P l.toArray (fun w' => ∃ s : KW w, w' = s.w) (fun a' => ∀ s : KW w, wpList P l.toArray Q (l.drop n) a' s.w) (l.take n) a) : (Code.region id l.toArray true).wp P Q a w := by
 refine wp_region_quiet_tail (C := fun w' => ∃ s : KW w, w' = s.w) n hm hB (KW.drew w) ?_
 have e : (fun a' => ∀ w', (∃ s : KW w, w' = s.w) → wpList P l.toArray Q (l.drop n) a' w') = fun a' => ∀ s : KW w, wpList P l.toArray Q (l.drop n) a' s.w := by
  funext a'
  exact propext ⟨fun h s => h _ ⟨s, rfl⟩, fun h w' ⟨s, hs⟩ => hs ▸ h s⟩
 rw [e]
 exact h
end
open Go.RowKit
section
variable {P : Program} {ops : Array Oper} {md : Region.Mode} {W : World} {n : Nat}
def keepUpon (P : Program) (w : World) (v : Value) : Result Next → Prop
 | .ok (.value u) w' => w' = w ∧ u = v
 | .ok .skip w' => w' = w ∧ v = undef
 | .ok (.enter f args) w' => w' = w ∧ Calls P f args w (fun e w'' => e = .returned v ∧ Below w.heap.size w w'')
 | _ => False
def keepAt (P : Program) (o : Oper) (a : Act) (w : World) (v : Value) : Prop := keepUpon P w v ((execOp a.eval o).run P w)
def keepOp (P : Program) (o : Oper) (a : Act) (W : World) (K : Act → Prop) : Prop := ∃ v, (∀ s : KW W, keepAt P o a s.w v) ∧ K (a.put o.dst v)
def wpK (P : Program) (ops : Array Oper) (W : World) (Q : Act → Prop) : List Oper → Act → Prop
 | [], a => Q a
 | o :: rest, a => if Region.wanted o (yielded ops a.tmps) then keepOp P o a W (wpK P ops W Q rest) else wpK P ops W Q rest (a.put o.dst undef)
def YK (P : Program) (ops : Array Oper) (W : World) (o : Oper) (v : Value) (a : Act) : Prop :=
 (Region.wanted o (yielded ops a.tmps) = true ∧ ∀ s : KW W, keepAt P o a s.w v) ∨ (Region.wanted o (yielded ops a.tmps) = false ∧ v = undef)
def kOp (P : Program) (ops : Array Oper) (W : World) (i : Nat) (K : Act → Prop) (a : Act) : Prop := ∃ o v, ops[i]? = some o ∧ YK P ops W o v a ∧ K (a.put o.dst v)
theorem YK.same {o : Oper} {v : Value} {a a' : Act} (hy : YK P ops W o v a) (he : execOp a'.eval o = execOp a.eval o) (hw : Region.wanted o (yielded ops a'.tmps) = Region.wanted o (yielded ops a.tmps)) : YK P ops W o v a' := by
 unfold YK keepAt at *
 rw [he, hw]
 exact hy
theorem wpK_yields {Q : Act → Prop} {a : Act} {o : Oper} {rest : List Oper} (h : wpK P ops W Q (o :: rest) a) : ∃ v, YK P ops W o v a ∧ wpK P ops W Q rest (a.put o.dst v) := by
 unfold wpK at h
 by_cases hw : Region.wanted o (yielded ops a.tmps) = true
 ·rw [if_pos hw] at h
  obtain ⟨v, h1, h2⟩ := h
  exact ⟨v, .inl ⟨hw, h1⟩, h2⟩
 ·rw [if_neg hw] at h
  exact ⟨undef, .inr ⟨by simpa using hw, rfl⟩, h⟩
theorem waits_of {i j : Nat} {o : Oper} (ho : ops[i]? = some o) (h : Region.waitsFor md ops i j = false) : ∀ e ∈ o.after, Region.binds md e = true → e.on ≠ j := by
 intro e he hb heq
 unfold Region.waitsFor at h
 simp only [ho] at h
 have : (o.after.any fun e => Region.binds md e && e.on == j) = true := Array.any_eq_true'.2 ⟨e, he, by simp [hb, heq]⟩
 rw [this] at h
 cases h
end
open Go.RowKit
section
variable {P : Program} {ops : Array Oper} {md : Region.Mode} {W : World} {n m : Nat}
def HeadM (P : Program) (md : Region.Mode) (ops : Array Oper) (W : World) (n m : Nat) (L : Array Bool → Act → Prop) : Nat → Array Bool → Act → Prop
 | 0, done, a => L done a
 | f + 1, done, a => (∃ i, i < n ∧ i ∈ Region.ready md ops done) ∧ ∀ i ∈ Region.ready md ops done, (n ≤ i ∧ i < m) ∨ (i < n ∧ kOp P ops W i (HeadM P md ops W n m L f (done.setIfInBounds i true)) a)
theorem HeadM.first {i : Nat} {oi : Oper} {v : Value} {L : Array Bool → Act → Prop} (hi : ops[i]? = some oi) (hsel : ∀ (j : Nat) (o : Oper) cs b, ops[j]? = some o → o.op ≠ .select cs b)
  (hs : Region.sinkB md ops m = true) (hc : Region.chainB md ops m = true) (hn : m < ops.size) (hnm : n ≤ m) (hin : i < n) (hend : ∀ done a, L done a → ∀ j ∈ Region.ready md ops done, n ≤ j ∧ j < m) :
  ∀ (f : Nat) (done : Array Bool) (a : Act), HeadInv md ops m done →
   (∀ j oj, ops[j]? = some oj → j ≠ i → done.getD j true = false → (∀ e ∈ oj.after, Region.binds md e = true → e.on ≠ i) → oi.apart ops oj = true) →
   i ∈ Region.ready md ops done → YK P ops W oi v a → HeadM P md ops W n m L f (done.setIfInBounds i true) (a.put oi.dst v) → HeadM P md ops W n m L (f + 1) done a := by
 intro f
 induction f with
 | zero =>
  intro done a inv _ hr hy H
  refine ⟨⟨i, hin, hr⟩, fun j hj => ?_⟩
  by_cases hji : j = i
  ·subst hji
   exact .inr ⟨hin, oi, v, hi, hy, H⟩
  ·exact .inl (hend _ _ H j (ready_mono hj hji))
 | succ f ih =>
  intro done a inv hfree hr hy H
  have hun := (mem_ready.1 hr).1
  refine ⟨⟨i, hin, hr⟩, fun j hj => ?_⟩
  have hjn : j < m := Nat.lt_of_not_le fun h => tail_waits hs hc hn inv _ i rfl (by omega) hun j h hj
  by_cases hji : j = i
  ·subst hji
   exact .inr ⟨hin, oi, v, hi, hy, H⟩
  ·rcases H.2 j (ready_mono hj hji) with h0 | ⟨hjlt, oj, u, hoj, hyj, hK⟩
   ·exact .inl h0
   ·obtain ⟨hjun, oj', hoj', hall⟩ := mem_ready.1 hj
    have e : oj' = oj := Option.some.inj (hoj'.symm.trans hoj)
    subst e
    have hno : ∀ e ∈ oj'.after, Region.binds md e = true → e.on ≠ i := by
     intro e he hb heq
     have h1 := hall e he hb
     rw [heq, getD_both hun] at h1
     cases h1
    obtain ⟨h1, h2, h3⟩ := Oper.apart_spec (hfree j oj' hoj hji hjun hno)
    have hyj' : YK P ops W oj' u a := hyj.same (execOp_put oj' (fun cs b => hsel j oj' cs b hoj) a oi.dst v h1).symm (wanted_put oj' a oi.dst v h1).symm
    have hyi' : YK P ops W oi v (a.put oj'.dst u) := hy.same (execOp_put oi (fun cs b => hsel i oi cs b hi) a oj'.dst u h3) (wanted_put oi a oj'.dst u h3)
    refine .inr ⟨hjlt, oj', u, hoj, hyj', ih (done.setIfInBounds j true) _ (inv.set hj hjn) ?_ (ready_mono hr (Ne.symm hji)) hyi' ?_⟩
    ·intro k ok hk hki hku hkn
     refine hfree k ok hk hki ?_ hkn
     by_cases hjk : j = k
     ·subst hjk
      exact hjun
     ·rw [getD_set_ne true hjk] at hku
      exact hku
    ·rw [Array.setIfInBounds_comm _ _ hji, ← Act.put_comm a v u h2]
     exact hK
def setR (n m : Nat) (done : Array Bool) : Array Bool := (List.range' n (m - n)).foldl (fun d i => d.setIfInBounds i true) done
def lexM (md : Region.Mode) (ops : Array Oper) (g n m : Nat) : Nat → Nat → Array Bool → Bool
 | 0, _, done => decide (Region.ready md ops done = List.range' n (m - n)) && Region.seqB md ops g m (setR n m done)
 | f + 1, k, done => (Region.ready md ops done).contains k && Region.free md ops done k && lexM md ops g n m f (k + 1) (done.setIfInBounds k true)
def freeM (md : Region.Mode) (ops : Array Oper) (n m : Nat) : Bool :=
 (List.range m).all fun i => (List.range' n (m - n)).all fun j => decide (i = j) || (!Region.waitsFor md ops i j && (match ops[i]?, ops[j]? with | some o, some p => o.apart ops p | _, _ => false))
def lexAllocsB (md : Region.Mode) (ops : Array Oper) (n m : Nat) : Bool :=
 Region.noSelect ops && decide (m < ops.size) && decide (n ≤ m) && Region.sinkB md ops m && Region.chainB md ops m && freeM md ops n m && lexM md ops (ops.size - m) n m n 0 (Array.replicate ops.size false)
theorem HeadM.lex {g : Nat} {K : Act → Prop} (hsel : Region.noSelect ops = true) (hs : Region.sinkB md ops m = true) (hc : Region.chainB md ops m = true) (hn : m < ops.size) (hnm : n ≤ m) (l : List Oper) :
  ∀ (k : Nat) (done : Array Bool) (a : Act), (∀ j, j < l.length → l[j]? = ops[k + j]?) → k + l.length = n → HeadInv md ops m done →
  lexM md ops g n m l.length k done = true → wpK P ops W K l a → HeadM P md ops W n m (fun d a' => (Region.ready md ops d = List.range' n (m - n) ∧ Region.seqB md ops g m (setR n m d) = true) ∧ K a') l.length done a := by
 induction l with
 | nil =>
  intro k done a _ hk _ hB h
  simp only [List.length_nil, lexM, Bool.and_eq_true, decide_eq_true_eq] at hB
  exact ⟨hB, h⟩
 | cons o l ih =>
  intro k done a hl hk inv hB h
  have h0 : ops[k]? = some o := by simpa using (hl 0 (by simp)).symm
  simp only [List.length_cons, lexM, Bool.and_eq_true] at hB
  simp only [List.length_cons] at hk
  have hr : k ∈ Region.ready md ops done := by simpa using hB.1.1
  obtain ⟨v, hy, hK⟩ := wpK_yields h
  refine HeadM.first h0 (Region.noSelect_spec hsel) hs hc hn hnm (by omega) (fun d a' hL j hj => ?_) l.length done a inv (Region.free_spec h0 hB.1.2) hr hy ?_
  ·rw [hL.1.1, List.mem_range'_1] at hj
   omega
  ·refine ih (k + 1) _ _ (fun j hj => ?_) (by omega) (inv.set hr (by omega)) hB.2 hK
   have := hl (j + 1) (by simp; omega)
   simpa [Nat.add_assoc, Nat.add_comm 1 j] using this
def doneE (E : List (Nat × Nat)) (done : Array Bool) : Array Bool := E.foldl (fun d p => d.setIfInBounds p.1 true) done
def putE (ds : Nat → Option Tmp) (vs : Nat → Nat → Value) (E : List (Nat × Nat)) (a : Act) : Act := E.foldl (fun a p => a.put (ds p.1) (vs p.1 p.2)) a
theorem doneE_snoc (E : List (Nat × Nat)) (i g : Nat) (done : Array Bool) : doneE (E ++ [(i, g)]) done = (doneE E done).setIfInBounds i true := by
 simp [doneE, List.foldl_append]
theorem putE_snoc (ds : Nat → Option Tmp) (vs : Nat → Nat → Value) (E : List (Nat × Nat)) (i g : Nat) (a : Act) : putE ds vs (E ++ [(i, g)]) a = (putE ds vs E a).put (ds i) (vs i g) := by
 simp [putE, List.foldl_append]
theorem doneE_getD (E : List (Nat × Nat)) (k : Nat) (b : Bool) (h : ∀ p ∈ E, p.1 ≠ k) : ∀ done, (doneE E done).getD k b = done.getD k b := by
 induction E with
 | nil => intro done; rfl
 | cons p E ih =>
  intro done
  show (doneE E (done.setIfInBounds p.1 true)).getD k b = _
  rw [ih (fun q hq => h q (List.mem_cons_of_mem _ hq)), getD_set_ne b (h p List.mem_cons_self)]
theorem doneE_set (E : List (Nat × Nat)) (i : Nat) (h : ∀ p ∈ E, p.1 ≠ i) : ∀ done, (doneE E done).setIfInBounds i true = doneE E (done.setIfInBounds i true) := by
 induction E with
 | nil => intro done; rfl
 | cons p E ih =>
  intro done
  show (doneE E (done.setIfInBounds p.1 true)).setIfInBounds i true = doneE E ((done.setIfInBounds i true).setIfInBounds p.1 true)
  rw [ih (fun q hq => h q (List.mem_cons_of_mem _ hq)), Array.setIfInBounds_comm _ _ (h p List.mem_cons_self)]
theorem putE_put (ds : Nat → Option Tmp) (vs : Nat → Nat → Value) (E : List (Nat × Nat)) (d : Option Tmp) (v : Value) (h : ∀ p ∈ E, ∀ t, d = some t → ds p.1 ≠ some t) : ∀ a, (putE ds vs E a).put d v = putE ds vs E (a.put d v) := by
 induction E with
 | nil => intro a; rfl
 | cons p E ih =>
  intro a
  show (putE ds vs E (a.put (ds p.1) (vs p.1 p.2))).put d v = putE ds vs E ((a.put d v).put (ds p.1) (vs p.1 p.2))
  rw [ih (fun q hq => h q (List.mem_cons_of_mem _ hq)), Act.put_comm a v (vs p.1 p.2) (h p List.mem_cons_self)]
theorem ready_doneE (E : List (Nat × Nat)) (j : Nat) (h : ∀ p ∈ E, p.1 ≠ j) : ∀ done, j ∈ Region.ready md ops done → j ∈ Region.ready md ops (doneE E done) := by
 induction E with
 | nil => intro done hj; exact hj
 | cons p E ih =>
  intro done hj
  exact ih (fun q hq => h q (List.mem_cons_of_mem _ hq)) _ (ready_mono hj (Ne.symm (h p List.mem_cons_self)))
theorem doneE_true (E : List (Nat × Nat)) : ∀ (done : Array Bool), (∀ p ∈ E, p.1 < done.size) → ∀ p ∈ E, (doneE E done).getD p.1 true = true := by
 induction E with
 | nil => intro done _ p hp; cases hp
 | cons q E ih =>
  intro done hsz p hp
  show (doneE E (done.setIfInBounds q.1 true)).getD p.1 true = true
  by_cases hin : p ∈ E
  ·exact ih _ (fun r hr => by simpa using hsz r (List.mem_cons_of_mem _ hr)) p hin
  ·have hpq : p = q := by
    rcases List.mem_cons.1 hp with h | h
    ·exact h
    ·exact absurd h hin
   subst hpq
   by_cases hex : ∃ r ∈ E, r.1 = p.1
   ·obtain ⟨r, hr, he⟩ := hex
    have := ih (done.setIfInBounds p.1 true) (fun r hr => by simpa using hsz r (List.mem_cons_of_mem _ hr)) r hr
    rwa [he] at this
   ·rw [doneE_getD E p.1 true (fun r hr he => hex ⟨r, hr, he⟩)]
    have := hsz p List.mem_cons_self
    simp [this]
structure KE (W : World) (Zs : Nat → Obj) (E : List (Nat × Nat)) (w : World) : Prop where
 keep : Below W.heap.size W w
 lt : ∀ p ∈ E, p.2 < w.heap.size
 at_ : ∀ p ∈ E, w.heap[p.2]? = some (Zs p.1)
 ge : ∀ p ∈ E, W.heap.size ≤ p.2
 nodup : (E.map Prod.snd).Nodup
theorem KE.next {Zs : Nat → Obj} {E : List (Nat × Nat)} {w w' : World} (h : KE W Zs E w) (hb : Below w.heap.size w w') : KE W Zs E w' where
 keep := h.keep.trans (hb.mono h.keep.size)
 lt := fun p hp => Nat.lt_of_lt_of_le (h.lt p hp) hb.size
 at_ := fun p hp => by rw [hb.block _ (h.lt p hp)]; exact h.at_ p hp
 ge := h.ge
 nodup := h.nodup
theorem KE.more {Zs : Nat → Obj} {E : List (Nat × Nat)} {w : World} (h : KE W Zs E w) (i : Nat) : KE W Zs (E ++ [(i, w.heap.size)]) (w.alloc (Zs i)) := by
 have hb : Below w.heap.size w (w.alloc (Zs i)) := (Below.refl _ _).alloc (Nat.le_refl _) _
 have h' := h.next hb
 refine ⟨h'.keep, fun p hp => ?_, fun p hp => ?_, fun p hp => ?_, ?_⟩
 ·rcases List.mem_append.1 hp with hp | hp
  ·exact h'.lt p hp
  ·rw [List.mem_singleton.1 hp]
   simp
 ·rcases List.mem_append.1 hp with hp | hp
  ·exact h'.at_ p hp
  ·rw [List.mem_singleton.1 hp]
   exact heap_alloc_new w _
 ·rcases List.mem_append.1 hp with hp | hp
  ·exact h.ge p hp
  ·rw [List.mem_singleton.1 hp]
   exact h.keep.size
 ·rw [List.map_append, List.nodup_append]
  refine ⟨h.nodup, by simp, fun a ha b hb e => ?_⟩
  simp only [List.map_cons, List.map_nil, List.mem_singleton] at hb
  obtain ⟨p, hp, hpe⟩ := List.mem_map.1 ha
  have := h.lt p hp
  omega
theorem HeadM.any {g : Nat} {L : Array Bool → Act → Prop} {Q : Exit → Act → World → Prop} {ds : Nat → Option Tmp} {vs : Nat → Nat → Value} {Zs : Nat → Obj}
  (hsel : Region.noSelect ops = true) (hs : Region.sinkB md ops m = true) (hc : Region.chainB md ops m = true) (hn : m < ops.size) (hnm : n ≤ m) (hfr : freeM md ops n m = true)
  (hA : ∀ j, n ≤ j → j < m → ∃ o, ops[j]? = some o ∧ o.dst = ds j ∧ o.guard = none ∧ ∀ a w, (execOp (Act.eval a) o).run P w = .ok (.value (vs j w.heap.size)) (w.alloc (Zs j)))
  (hend : ∀ done a, L done a → Region.ready md ops done = List.range' n (m - n))
  (hL : ∀ done a, L done a → ∀ E w, (E.map Prod.fst).Nodup → (∀ p ∈ E, n ≤ p.1 ∧ p.1 < m) → E.length = m - n → KE W Zs E w → wpAny P md ops Q g (doneE E done) (putE ds vs E a) w) :
  ∀ (N f : Nat) (E : List (Nat × Nat)) (done : Array Bool) (a : Act) (w : World), N + E.length = f + (m - n) → (E.map Prod.fst).Nodup → (∀ p ∈ E, n ≤ p.1 ∧ p.1 < m) → E.length ≤ m - n → done.size = ops.size → HeadInv md ops m (doneE E done) →
   HeadM P md ops W n m L f done a → KE W Zs E w → wpAny P md ops Q (N + g) (doneE E done) (putE ds vs E a) w := by
 have hap : ∀ (i j : Nat), i < m → n ≤ j → j < m → i ≠ j → Region.waitsFor md ops i j = false ∧ ∀ o p, ops[i]? = some o → ops[j]? = some p → o.apart ops p = true := by
  intro i j hi hj1 hj2 hij
  have h1 := List.all_eq_true.1 hfr i (List.mem_range.2 hi)
  have h2 := List.all_eq_true.1 h1 j (List.mem_range'_1.2 ⟨hj1, by omega⟩)
  simp only [Bool.or_eq_true, decide_eq_true_eq, Bool.and_eq_true, Bool.not_eq_true'] at h2
  rcases h2 with h2 | h2
  ·exact absurd h2 hij
  ·refine ⟨h2.1, fun o p ho hp => ?_⟩
   have h3 := h2.2
   rw [ho, hp] at h3
   exact h3
 intro N
 induction N with
 | zero =>
  intro f E done a w hN hnd hin hlen hsz inv hH hK
  have hf : f = 0 := by omega
  subst hf
  rw [Nat.zero_add]
  exact hL done a hH E w hnd hin (by omega) hK
 | succ N ih =>
  intro f E done a w hN hnd hin hlen hsz inv hH hK
  rw [show N + 1 + g = (N + g) + 1 by omega]
  -- something below m comes up
  have hsome : ∃ i, i < m ∧ i ∈ Region.ready md ops (doneE E done) := by
   cases f with
   | succ f =>
    obtain ⟨⟨i, hi, hr⟩, _⟩ := hH
    exact ⟨i, by omega, ready_doneE E i (fun p hp he => by have := (hin p hp).1; omega) done hr⟩
   | zero =>
    have hr := hend done a hH
    have hex : ∃ j, n ≤ j ∧ j < m ∧ ∀ p ∈ E, p.1 ≠ j := by
     refine Classical.byContradiction fun hno => ?_
     have hall : ∀ j, n ≤ j → j < m → j ∈ E.map Prod.fst := by
      intro j h1 h2
      refine Classical.byContradiction fun hj => hno ⟨j, h1, h2, fun p hp he => hj (List.mem_map.2 ⟨p, hp, he⟩)⟩
     have hsub : List.range' n (m - n) ⊆ E.map Prod.fst := fun j hj => by
      rw [List.mem_range'_1] at hj
      exact hall j hj.1 (by omega)
     have hle := (List.nodup_range' (s := n) (n := m - n)).length_le_of_subset hsub
     simp at hle
     omega
    obtain ⟨j, h1, h2, h3⟩ := hex
    refine ⟨j, h2, ready_doneE E j h3 done ?_⟩
    rw [hr, List.mem_range'_1]
    omega
  obtain ⟨i0, hi0, hr0⟩ := hsome
  refine ⟨fun h0 => (by rw [h0] at hr0; cases hr0), fun i hi => ?_⟩
  have him : i < m := Nat.lt_of_not_le fun h => tail_waits hs hc hn inv _ i0 rfl hi0 (mem_ready.1 hr0).1 i h hi
  have hiE : ∀ p ∈ E, p.1 ≠ i := by
   intro p hp he
   have h1 := doneE_true E done (fun q hq => by have := (hin q hq).2; omega) p hp
   rw [he, (mem_ready.1 hi).1] at h1
   cases h1
  by_cases hni : n ≤ i
  ·-- a variable is made
   obtain ⟨o, ho, hd, hg, hrun⟩ := hA i hni him
   unfold wpOp
   have hw : Region.wanted o (yielded ops (putE ds vs E a).tmps) = true := by simp [Region.wanted, hg]
   simp only [ho, hw, if_true]
   refine .inl ?_
   unfold Oper.wp
   rw [hrun]
   simp only [Oper.upon]
   rw [hd, ← putE_snoc, ← doneE_snoc]
   refine ih f (E ++ [(i, w.heap.size)]) done a _ (by simp; omega) ?_ ?_ ?_ hsz ?_ hH (hK.more i)
   ·rw [List.map_append, List.nodup_append]
    refine ⟨hnd, by simp, fun x hx y hy e => ?_⟩
    simp only [List.map_cons, List.map_nil, List.mem_singleton] at hy
    obtain ⟨p, hp, hpe⟩ := List.mem_map.1 hx
    exact hiE p hp (by omega)
   ·intro p hp
    rcases List.mem_append.1 hp with hp | hp
    ·exact hin p hp
    ·rw [List.mem_singleton.1 hp]
     exact ⟨hni, him⟩
   ·cases f with
    | zero => simp; omega
    | succ f =>
     simp only [List.length_append, List.length_cons, List.length_nil]
     refine Nat.lt_of_not_le fun hle => ?_
     have hlen2 : E.length = m - n := by omega
     have hsub : E.map Prod.fst ⊆ List.range' n (m - n) := fun x hx => by
      obtain ⟨p, hp, hpe⟩ := List.mem_map.1 hx
      have := hin p hp
      rw [List.mem_range'_1]
      omega
     have hmem : i ∈ E.map Prod.fst := by
      refine Classical.byContradiction fun hni2 => ?_
      have hnd2 : (i :: E.map Prod.fst).Nodup := List.nodup_cons.2 ⟨hni2, hnd⟩
      have hsub2 : (i :: E.map Prod.fst) ⊆ List.range' n (m - n) := fun x hx => by
       rcases List.mem_cons.1 hx with rfl | hx
       ·rw [List.mem_range'_1]
        omega
       ·exact hsub hx
      have := hnd2.length_le_of_subset hsub2
      simp at this
      omega
     obtain ⟨p, hp, hpe⟩ := List.mem_map.1 hmem
     exact hiE p hp hpe
   ·rw [doneE_snoc]
    exact inv.set hi him
  ·-- an operation of the head
   obtain ⟨hiun, oi, hoi, hie⟩ := mem_ready.1 hi
   have hrd : i ∈ Region.ready md ops done := by
    rw [mem_ready]
    rw [doneE_getD E i true hiE] at hiun
    refine ⟨hiun, oi, hoi, fun e he hb => ?_⟩
    have h1 := hie e he hb
    rwa [doneE_getD E e.on false (fun p hp heq => waits_of hoi (hap i p.1 him (hin p hp).1 (hin p hp).2 (by have := (hin p hp).1; omega)).1 e he hb heq.symm)] at h1
   cases f with
   | zero =>
    rw [hend done a hH, List.mem_range'_1] at hrd
    omega
   | succ f =>
    rcases hH.2 i hrd with h0 | ⟨hlt, o, v, ho, hy, hKK⟩
    ·omega
    ·have eo : o = oi := Option.some.inj (ho.symm.trans hoi)
     subst eo
     have hso : ∀ cs b, o.op ≠ .select cs b := fun cs b => Region.noSelect_spec hsel i o cs b ho
     have hapE : ∀ p ∈ E, (∀ d, ds p.1 = some d → d ∉ o.looksAt ops) ∧ (∀ t, o.dst = some t → ds p.1 ≠ some t) := by
      intro p hp
      obtain ⟨q, hq, hqd, _⟩ := hA p.1 (hin p hp).1 (hin p hp).2
      have h4 := Oper.apart_spec ((hap i p.1 him (hin p hp).1 (hin p hp).2 (by have := (hin p hp).1; omega)).2 o q ho hq)
      rw [hqd] at h4
      exact ⟨h4.2.2, h4.2.1⟩
     have hyE : ∀ (E' : List (Nat × Nat)) (b : Act), (∀ p ∈ E', ∀ d, ds p.1 = some d → d ∉ o.looksAt ops) → YK P ops W o v b → YK P ops W o v (putE ds vs E' b) := by
      intro E'
      induction E' with
      | nil => intro b _ h; exact h
      | cons p E' ih2 =>
       intro b hb h
       exact ih2 _ (fun q hq => hb q (List.mem_cons_of_mem _ hq)) (h.same (execOp_put o hso b _ _ (hb p List.mem_cons_self)) (wanted_put o b _ _ (hb p List.mem_cons_self)))
     have hy' := hyE E a (fun p hp => (hapE p hp).1) hy
     -- the step itself
     have hstep : wpOp P ops Q i (wpAny P md ops Q (N + g) ((doneE E done).setIfInBounds i true)) (putE ds vs E a) w := by
      unfold Go.wpOp
      simp only [ho]
      have hnext : ∀ w', Below w.heap.size w w' → wpAny P md ops Q (N + g) ((doneE E done).setIfInBounds i true) ((putE ds vs E a).put o.dst v) w' := by
       intro w' hb
       rw [doneE_set E i hiE, putE_put ds vs E o.dst v (fun p hp => (hapE p hp).2)]
       refine ih f E (done.setIfInBounds i true) (a.put o.dst v) w' (by omega) hnd hin hlen (by simpa using hsz) ?_ hKK (hK.next hb)
       rw [← doneE_set E i hiE]
       exact inv.set hi him
      rcases hy' with ⟨hw, hv⟩ | ⟨hw, rfl⟩
      ·rw [if_pos hw]
       refine .inl ?_
       have hk := hv ⟨w, hK.keep⟩
       unfold keepAt at hk
       unfold Oper.wp
       simp only at hk
       generalize (execOp (putE ds vs E a).eval o).run P w = r at *
       cases r with
       | ok x w' =>
        cases x <;> simp only [keepUpon] at hk <;> simp only [Oper.upon]
        case value u =>
         obtain ⟨e1, e2⟩ := hk
         rw [e1, e2]
         exact hnext w (Below.refl _ _)
        case skip =>
         obtain ⟨e1, e2⟩ := hk
         rw [e1, ← e2]
         exact hnext w (Below.refl _ _)
        case enter f args =>
         obtain ⟨e1, hcl⟩ := hk
         rw [e1]
         exact hcl.mono fun e w'' ⟨he, hb⟩ => by subst he; exact hnext w'' hb
       | halt x w' => simp only [keepUpon] at hk
      ·rw [if_neg (by rw [hw]; exact Bool.false_ne_true)]
       exact hnext w (Below.refl _ _)
     exact hstep
end
open Go.RowKit
def setAll (cs : Array Value) : Nat → List Value → Array Value
 | _, [] => cs
 | o, v :: vs => setAll (cs.setIfInBounds o v) (o + 1) vs
theorem setAll_get (vs : List Value) : ∀ (cs : Array Value) (o i : Nat), o + vs.length ≤ cs.size → (setAll cs o vs)[i]? = if o ≤ i ∧ i < o + vs.length then vs[i - o]? else cs[i]? := by
 induction vs with
 | nil =>
  intro cs o i _
  simp only [setAll, List.length_nil]
  rw [if_neg (by omega)]
 | cons v vs ih =>
  intro cs o i h
  simp only [List.length_cons] at h
  simp only [setAll, List.length_cons]
  rw [ih _ _ _ (by simp; omega)]
  by_cases h1 : o + 1 ≤ i ∧ i < o + 1 + vs.length
  ·rw [if_pos h1, if_pos (by omega), show i - o = (i - (o + 1)) + 1 by omega, List.getElem?_cons_succ]
  ·rw [if_neg h1]
   by_cases h2 : i = o
   ·subst h2
    rw [if_pos (by omega), Nat.sub_self, Array.getElem?_setIfInBounds]
    simp
    omega
   ·rw [if_neg (by omega), Array.getElem?_setIfInBounds_ne (by omega)]
theorem heap_setCells (g : Nat) (T : TypeId) (vs : List Value) : ∀ (W : World) (cs : Array Value) (o : Nat), W.heap[g]? = some (.cells cs T (0, 0)) → (W.setCells g o vs).heap[g]? = some (.cells (setAll cs o vs) T (0, 0)) := by
 induction vs with
 | nil => intro W cs o h; exact h
 | cons v vs ih =>
  intro W cs o h
  exact ih _ _ _ (heap_setCell_same W g o cs T v h)
open Go.RowKit
section
variable {P : Program} {ops : Array Oper} {md : Region.Mode} {Q : Exit → Act → World → Prop}
theorem op_load_row {o : Oper} {a : Act} {w : World} {K : Act → World → Prop} (ty : TypeId) (x : Operand) (ho : o.op = .load ty x) (g : Nat) (hx : a.eval x = .pointer (some ⟨g, 0, none⟩)) (t : TypeId) (cs : Array Value) (fr : Nat × Nat) (d : TypeDesc)
  (hg : w.heap[g]? = some (.cells cs t fr)) (hu : P.underlying ty = some d) (hd : (match d with | .struct _ | .array _ _ => true | _ => false) = true) (hi : (P.info? ty).map (·.size) = some cs.size)
  (hk : K (a.put o.dst (.agg cs)) w) : o.wp P a w K Q := by
 unfold Oper.wp execOp
 simp only [ho, hx, Instr.loadAt, Instr.sureAddr, Sem.run_bind, Sem.run_pure, Result.andThen_ok, run_loadVar_row w g t ty cs fr d hg hu hd hi]
 exact hk
theorem results_cell_tmp {fn : Func} {p s : Tmp} {ty : TypeId} (h : fn.results = #[.cell p ty, .tmp s]) (tmps : Array Value) (w : World) (g : Nat) (t : TypeId) (cs : Array Value) (fr : Nat × Nat) (d : TypeDesc) (v : Value)
  (hp : tmps.getD p undef = .pointer (some ⟨g, 0, none⟩)) (hs : tmps.getD s undef = v) (hg : w.heap[g]? = some (.cells cs t fr))
  (hu : P.underlying ty = some d) (hd : (match d with | .struct _ | .array _ _ => true | _ => false) = true) (hi : (P.info? ty).map (·.size) = some cs.size) :
  (results fn tmps).run P w = .ok (.tuple #[.agg cs, v]) w := by
 have hp' : tmps[p]?.getD undef = .pointer (some ⟨g, 0, none⟩) := by simpa using hp
 have hs' : tmps[s]?.getD undef = v := by simpa using hs
 simp [results, h, hp', hs', asAddr, run_loadVar_row w g t ty cs fr d hg hu hd hi]
end
open Go.RowKit
def av (n : Nat) (F : NV) : Array Value := ((List.range n).map F).toArray
def w64 (f : NI) : Nat → Value := fun i => .int .u64 (f i)
def w32 (f : NI) : Nat → Value := fun i => .int .u32 (f i)
def w8 (f : NI) : Nat → Value := fun i => .int .u8 (f i)
theorem av_size (n : Nat) (F : NV) : (av n F).size = n := by simp [av]
theorem av_get (n : Nat) (F : NV) (i : Nat) (h : i < n) : (av n F)[i]? = some (F i) := by simp [av, h]
theorem av_congr {n : Nat} {F G : NV} (h : ∀ i, i < n → F i = G i) : av n F = av n G := by
 unfold av
 congr 1
 exact List.map_congr_left fun i hi => h i (List.mem_range.1 hi)
def upd {α : Type} (f : Nat → α) (k : Nat) (v : α) : Nat → α := fun i => if i = k then v else f i
theorem av_set (n : Nat) (F : NV) (k : Nat) (v : Value) : (av n F).setIfInBounds k v = av n (upd F k v) := by
 apply Array.ext_getElem?
 intro i
 by_cases hi : i < n
 ·rw [Array.getElem?_setIfInBounds, av_get n (upd F k v) i hi]
  by_cases hk : k = i
  ·subst hk
   rw [if_pos rfl, if_pos (by rw [av_size]; exact hi)]
   simp [upd]
  ·have : ¬ i = k := fun h => hk h.symm
   rw [if_neg hk, av_get n F i hi]
   simp [upd, this]
 ·rw [Array.getElem?_eq_none (by simp [av_size]; omega), Array.getElem?_eq_none (by simp [av_size]; omega)]
structure Blk where
 g : Nat
 Z : Obj
structure Ctx where
 w : World
 r : List Nat
def OF : Nat → Nat := fun i => ([0, 1, 2, 3, 4, 5, 6, 7, 8, 9, 10, 11, 12, 13, 14, 15, 14, 10, 4, 8, 9, 15, 13, 6, 1, 12, 0, 2, 11, 7, 5, 3, 11, 8, 12, 0, 5, 2, 15, 13, 10, 14, 3, 6, 7, 1, 9, 4, 7, 9, 3, 1, 13, 12, 11, 14, 2, 6, 5, 10, 4, 0, 15, 8, 9, 0, 5, 7, 2, 4, 10, 15, 14, 1, 11, 12, 6, 8, 3, 13, 2, 12, 6, 10, 0, 11, 8, 3, 4, 13, 7, 5, 15, 14, 1, 9, 12, 5, 1, 15, 14, 13, 4, 10, 0, 7, 6, 3, 9, 2, 8, 11, 13, 11, 7, 14, 12, 1, 3, 9, 5, 0, 15, 4, 8, 6, 2, 10, 6, 15, 14, 9, 11, 3, 0, 8, 12, 2, 13, 7, 1, 4, 10, 5, 10, 2, 8, 4, 7, 6, 1, 5, 15, 11, 9, 14, 3, 12, 13, 0] : List Nat).getD i 0
def TF : Nat → Int := fun i => ([16, 12, 8, 7] : List Int).getD i 0
structure Laid (w : World) : Prop where
 o : ∀ i, i < 160 → w.cell? ⟨0, i, none⟩ = some (.int .u8 (OF i : Int))
 t : ∀ i, i < 4 → w.cell? ⟨2, i, none⟩ = some (.int .i64 (TF i))
structure Grw (w w' : World) (r : List Nat) : Prop where
 os : w'.os = w.os
 tape : w'.tape = w.tape
 output : w'.output = w.output
 size : w.heap.size ≤ w'.heap.size
 block : ∀ k, k < w.heap.size → k ∉ r → w'.heap[k]? = w.heap[k]?
theorem Laid.lt {w : World} (h : Laid w) : 2 < w.heap.size := by
 refine Classical.byContradiction fun hn => ?_
 have h0 := h.t 0 (by decide)
 have : w.heap[2]? = none := Array.getElem?_eq_none (by omega)
 simp [World.cell?, this] at h0
theorem cell_of {w w' : World} {k : Nat} (e : w'.heap[k]? = w.heap[k]?) (i : Nat) : w'.cell? ⟨k, i, none⟩ = w.cell? ⟨k, i, none⟩ := by
 unfold World.cell?
 simp only
 rw [e]
theorem Laid.of {w w' : World} (h : Laid w) (e : ∀ k, k < 3 → w'.heap[k]? = w.heap[k]?) : Laid w' :=
 ⟨fun i hi => by rw [cell_of (e 0 (by decide))]; exact h.o i hi, fun i hi => by rw [cell_of (e 2 (by decide))]; exact h.t i hi⟩
theorem grown_refl (w : World) (r : List Nat) : Grw w w r := ⟨rfl, rfl, rfl, Nat.le_refl _, fun _ _ _ => rfl⟩
theorem below_grown {w w' : World} (h : Grw w w' []) : Below w.heap.size w w' := ⟨h.os, h.tape, h.output, h.size, fun k hk => h.block k hk (by simp)⟩
structure Mem (c : Ctx) (L : List Blk) (W : World) : Prop where
 old : Grw c.w W c.r
 at_ : ∀ b ∈ L, W.heap[b.g]? = some b.Z
 ge : ∀ b ∈ L, c.w.heap.size ≤ b.g ∨ b.g ∈ c.r
 nodup : (L.map Blk.g).Nodup
 lay : Laid c.w
 ne : ∀ k ∈ c.r, 2 < k
theorem Mem.start {w : World} (h : Laid w) : Mem ⟨w, []⟩ [] w := ⟨grown_refl _ _, by simp, by simp, by simp, h, by simp⟩
theorem Mem.startp {w : World} (h : Laid w) {g : Nat} {Z : Obj} (hg : w.heap[g]? = some Z) (h0 : 2 < g) : Mem ⟨w, [g]⟩ [⟨g, Z⟩] w := ⟨grown_refl _ _, by simpa using hg, by simp, by simp, h, by simpa using h0⟩
theorem Mem.startp2 {w : World} (h : Laid w) {g k : Nat} {Z Y : Obj} (hg : w.heap[g]? = some Z) (h0 : 2 < g) (hk : w.heap[k]? = some Y) (k0 : 2 < k) (hne : g ≠ k) : Mem ⟨w, [g, k]⟩ [⟨g, Z⟩, ⟨k, Y⟩] w := ⟨grown_refl _ _, by simpa using ⟨hg, hk⟩, by simp, by simpa using hne, h, by simp; exact ⟨h0, k0⟩⟩
theorem Mem.laid {c : Ctx} {W : World} {L : List Blk} (M : Mem c L W) : Laid W := M.lay.of fun k hk => M.old.block k (Nat.lt_of_lt_of_le hk M.lay.lt) fun e => absurd (M.ne k e) (by omega)
theorem Mem.lt {c : Ctx} {W : World} {L : List Blk} (M : Mem c L W) {b : Blk} (hb : b ∈ L) : b.g < W.heap.size := by
 have h := M.at_ b hb
 exact (Array.getElem?_eq_some_iff.1 h).1
theorem grown_keep {c : Ctx} {W W' : World} (ho : Grw c.w W c.r) (h : Below W.heap.size W W') : Grw c.w W' c.r :=
 ⟨h.os.trans ho.os, h.tape.trans ho.tape, h.output.trans ho.output, Nat.le_trans ho.size h.size, fun k hk hr => (h.block k (Nat.lt_of_lt_of_le hk ho.size)).trans (ho.block k hk hr)⟩
theorem Mem.keep {c : Ctx} {W W' : World} {L : List Blk} (M : Mem c L W) (h : Below W.heap.size W W') : Mem c L W' where
 old := grown_keep M.old h
 at_ := fun b hb => by rw [h.block _ (M.lt hb)]; exact M.at_ b hb
 ge := M.ge
 nodup := M.nodup
 lay := M.lay
 ne := M.ne
theorem Mem.news {c : Ctx} {W W' : World} {L N : List Blk} (M : Mem c L W) (h : Below W.heap.size W W') (hat : ∀ b ∈ N, W'.heap[b.g]? = some b.Z) (hge : ∀ b ∈ N, W.heap.size ≤ b.g) (hnd : (N.map Blk.g).Nodup) : Mem c (L ++ N) W' where
 old := grown_keep M.old h
 at_ := fun b hb => by
  rcases List.mem_append.1 hb with hb | hb
  ·rw [h.block _ (M.lt hb)]; exact M.at_ b hb
  ·exact hat b hb
 ge := fun b hb => by
  rcases List.mem_append.1 hb with hb | hb
  ·exact M.ge b hb
  ·exact .inl (Nat.le_trans M.old.size (hge b hb))
 nodup := by
  rw [List.map_append, List.nodup_append]
  refine ⟨M.nodup, hnd, fun x hx y hy e => ?_⟩
  obtain ⟨b, hb, rfl⟩ := List.mem_map.1 hx
  obtain ⟨d, hd, rfl⟩ := List.mem_map.1 hy
  have h1 := M.lt hb
  have h2 := hge d hd
  omega
 lay := M.lay
 ne := M.ne
theorem Mem.new {c : Ctx} {W W' : World} {L : List Blk} (M : Mem c L W) (g : Nat) (Z : Obj) (h : Below W.heap.size W W') (hat : W'.heap[g]? = some Z) (hge : W.heap.size ≤ g) : Mem c (L ++ [⟨g, Z⟩]) W' :=
 M.news h (by simpa using hat) (by simpa using hge) (by simp)
theorem Mem.drop {c : Ctx} {W : World} {L L' : List Blk} (M : Mem c L W) (h : L'.Sublist L) : Mem c L' W where
 old := M.old
 at_ := fun b hb => M.at_ b (h.subset hb)
 ge := fun b hb => M.ge b (h.subset hb)
 nodup := M.nodup.sublist (h.map _)
 lay := M.lay
 ne := M.ne
theorem Mem.perm {c : Ctx} {W : World} {L L' : List Blk} (M : Mem c L W) (h : L.Perm L') : Mem c L' W where
 old := M.old
 at_ := fun b hb => M.at_ b (h.mem_iff.2 hb)
 ge := fun b hb => M.ge b (h.mem_iff.2 hb)
 nodup := (h.map _).nodup_iff.1 M.nodup
 lay := M.lay
 ne := M.ne
theorem Mem.drew {c : Ctx} {W : World} {L : List Blk} (M : Mem c L W) : Mem c L W.drew := M.keep ((Below.refl _ _).drew)
theorem nodup_ne {α : Type} {l : List α} (h : l.Nodup) {i j : Nat} (hij : i < j) (hj : j < l.length) : l[i]? ≠ l[j]? := by
 have h1 := List.pairwise_iff_getElem.1 h i j (by omega) hj hij
 rw [List.getElem?_eq_getElem (by omega), List.getElem?_eq_getElem hj]
 exact fun e => h1 (Option.some.inj e)
theorem nodup_of_map {α β : Type} {f : α → β} {l : List α} (h : (l.map f).Nodup) : l.Nodup := (List.pairwise_map.1 h).imp fun hab e => hab (by rw [e])
theorem fst_one {E : List (Nat × Nat)} (hnd : (E.map Prod.fst).Nodup) {x y : Nat × Nat} (hx : x ∈ E) (hy : y ∈ E) (e : x.1 = y.1) : x = y := by
 obtain ⟨i, hi⟩ := List.mem_iff_getElem?.1 hx
 obtain ⟨j, hj⟩ := List.mem_iff_getElem?.1 hy
 have li := (List.getElem?_eq_some_iff.1 hi).1
 have lj := (List.getElem?_eq_some_iff.1 hj).1
 rcases Nat.lt_trichotomy i j with hlt | heq | hlt
 ·exact absurd (by simp [hi, hj, e]) (nodup_ne hnd hlt (by simpa using lj))
 ·subst heq
  exact Option.some.inj (hi.symm.trans hj)
 ·exact absurd (by simp [hi, hj, e]) (nodup_ne hnd hlt (by simpa using li))
theorem nodup_at {L : List Blk} (h : (L.map Blk.g).Nodup) {i j : Nat} {b c : Blk} (hi : L[i]? = some b) (hj : L[j]? = some c) (hij : i ≠ j) : b.g ≠ c.g := by
 intro e
 have h1 := List.getElem?_eq_some_iff.1 hi
 have h2 := List.getElem?_eq_some_iff.1 hj
 obtain ⟨l1, e1⟩ := h1
 obtain ⟨l2, e2⟩ := h2
 rcases Nat.lt_or_gt_of_ne hij with hlt | hlt
 ·refine nodup_ne h hlt (by simpa using l2) ?_
  simp [hi, hj, e]
 ·refine nodup_ne h hlt (by simpa using l1) ?_
  simp [hi, hj, e]
theorem Mem.put {c : Ctx} {W W' : World} {L : List Blk} (M : Mem c L W) (i : Nat) (b : Blk) (hi : L[i]? = some b) (Z : Obj) (hu : Grw W W' [b.g]) (hz : W'.heap[b.g]? = some Z) : Mem c (L.set i ⟨b.g, Z⟩) W' where
 old := ⟨hu.os.trans M.old.os, hu.tape.trans M.old.tape, hu.output.trans M.old.output, Nat.le_trans M.old.size hu.size, fun k hk hr => by
  have hg := M.ge b (List.mem_of_getElem? hi)
  refine (hu.block k (Nat.lt_of_lt_of_le hk M.old.size) fun e => ?_).trans (M.old.block k hk hr)
  obtain rfl := List.mem_singleton.1 e
  rcases hg with hg | hg
  ·omega
  ·exact hr hg⟩
 at_ := fun d hd => by
  obtain ⟨j, hj⟩ := List.mem_iff_getElem?.1 hd
  rw [List.getElem?_set] at hj
  by_cases hij : i = j
  ·subst hij
   rw [if_pos rfl] at hj
   split at hj
   ·cases hj
    exact hz
   ·cases hj
  ·rw [if_neg hij] at hj
   have hm := List.mem_of_getElem? hj
   rw [hu.block _ (M.lt hm) (fun e => nodup_at M.nodup hj hi (Ne.symm hij) (List.mem_singleton.1 e))]
   exact M.at_ d hm
 ge := fun d hd => by
  obtain ⟨j, hj⟩ := List.mem_iff_getElem?.1 hd
  rw [List.getElem?_set] at hj
  by_cases hij : i = j
  ·subst hij
   rw [if_pos rfl] at hj
   split at hj
   ·cases hj
    exact M.ge b (List.mem_of_getElem? hi)
   ·cases hj
  ·rw [if_neg hij] at hj
   exact M.ge d (List.mem_of_getElem? hj)
 nodup := by
  have e : (L.set i ⟨b.g, Z⟩).map Blk.g = L.map Blk.g := by
   apply List.ext_getElem?
   intro j
   simp only [List.getElem?_map, List.getElem?_set]
   by_cases hij : i = j
   ·subst hij
    rw [if_pos rfl, hi]
    have := (List.getElem?_eq_some_iff.1 hi).1
    simp [this]
   ·rw [if_neg hij]
  rw [e]
  exact M.nodup
 lay := M.lay
 ne := M.ne
theorem Mem.put2 {c : Ctx} {W W' : World} {L : List Blk} (M : Mem c L W) (i j : Nat) (b d : Blk) (hi : L[i]? = some b) (hj : L[j]? = some d) (Z Y : Obj) (hu : Grw W W' [b.g, d.g]) (hz : W'.heap[b.g]? = some Z) (hy : W'.heap[d.g]? = some Y) : Mem c ((L.set i ⟨b.g, Z⟩).set j ⟨d.g, Y⟩) W' := by
 have hmem : ∀ x ∈ (L.set i ⟨b.g, Z⟩).set j ⟨d.g, Y⟩, W'.heap[x.g]? = some x.Z ∧ ∃ y ∈ L, y.g = x.g := fun x hx => by
  obtain ⟨k, hk⟩ := List.mem_iff_getElem?.1 hx
  rw [List.getElem?_set] at hk
  by_cases hjk : j = k
  ·subst hjk
   rw [if_pos rfl] at hk
   split at hk
   ·cases hk
    exact ⟨hy, d, List.mem_of_getElem? hj, rfl⟩
   ·cases hk
  ·rw [if_neg hjk, List.getElem?_set] at hk
   by_cases hik : i = k
   ·subst hik
    rw [if_pos rfl] at hk
    split at hk
    ·cases hk
     exact ⟨hz, b, List.mem_of_getElem? hi, rfl⟩
    ·cases hk
   ·rw [if_neg hik] at hk
    have hm := List.mem_of_getElem? hk
    refine ⟨?_, x, hm, rfl⟩
    rw [hu.block _ (M.lt hm) (fun e => by
     rcases List.mem_cons.1 e with e | e
     ·exact nodup_at M.nodup hk hi (Ne.symm hik) e
     ·exact nodup_at M.nodup hk hj (Ne.symm hjk) (List.mem_singleton.1 e))]
    exact M.at_ x hm
 refine ⟨⟨hu.os.trans M.old.os, hu.tape.trans M.old.tape, hu.output.trans M.old.output, Nat.le_trans M.old.size hu.size, fun k hk hr => ?_⟩, fun x hx => (hmem x hx).1, fun x hx => ?_, ?_, M.lay, M.ne⟩
 ·refine (hu.block k (Nat.lt_of_lt_of_le hk M.old.size) fun e => ?_).trans (M.old.block k hk hr)
  have key : ∀ y ∈ L, k ≠ y.g := fun y hy2 e2 => by
   rcases M.ge y hy2 with h | h
   ·omega
   ·exact hr (e2 ▸ h)
  rcases List.mem_cons.1 e with e | e
  ·exact key b (List.mem_of_getElem? hi) e
  ·exact key d (List.mem_of_getElem? hj) (List.mem_singleton.1 e)
 ·obtain ⟨y, hy2, e⟩ := (hmem x hx).2
  rw [← e]
  exact M.ge y hy2
 ·have e : ((L.set i ⟨b.g, Z⟩).set j ⟨d.g, Y⟩).map Blk.g = L.map Blk.g := by
   apply List.ext_getElem?
   intro k
   simp only [List.getElem?_map, List.getElem?_set]
   by_cases hjk : j = k
   ·subst hjk
    have := (List.getElem?_eq_some_iff.1 hj).1
    rw [if_pos rfl, hj]
    simp [this]
   ·rw [if_neg hjk]
    by_cases hik : i = k
    ·subst hik
     have := (List.getElem?_eq_some_iff.1 hi).1
     rw [if_pos rfl, hi]
     simp [this]
    ·rw [if_neg hik]
  rw [e]
  exact M.nodup
theorem Mem.get {c : Ctx} {W : World} {L : List Blk} (M : Mem c L W) (i : Nat) {g : Nat} {Z : Obj} (hi : L[i]? = some ⟨g, Z⟩) : W.heap[g]? = some Z := M.at_ _ (List.mem_of_getElem? hi)
theorem Mem.ne0 {c : Ctx} {W : World} {L : List Blk} (M : Mem c L W) (i : Nat) {g : Nat} {Z : Obj} (hi : L[i]? = some ⟨g, Z⟩) : 2 < g := by
 rcases M.ge _ (List.mem_of_getElem? hi) with h | h
 ·exact Nat.lt_of_lt_of_le M.lay.lt h
 ·exact M.ne _ h
theorem grown_trans {w1 w2 w3 : World} {r : List Nat} (h : Grw w1 w2 r) (k : Grw w2 w3 r) : Grw w1 w3 r := ⟨k.os.trans h.os, k.tape.trans h.tape, k.output.trans h.output, Nat.le_trans h.size k.size, fun j hj hr => (k.block j (Nat.lt_of_lt_of_le hj h.size) hr).trans (h.block j hj hr)⟩
theorem grown_setCell (W : World) (g o : Nat) (v : Value) : Grw W (W.setCell ⟨g, o, none⟩ v) [g] :=
 ⟨rfl, rfl, rfl, by simp, fun k _ hr => Below.heap_setCell _ _ _ _ (fun e => hr (by rw [e]; exact List.mem_singleton.2 rfl))⟩
theorem grown_setCells (g : Nat) (vs : List Value) : ∀ (W : World) (o : Nat), Grw W (W.setCells g o vs) [g] := by
 induction vs with
 | nil => intro W o; exact grown_refl _ _
 | cons v vs ih => intro W o; exact grown_trans (grown_setCell W g o v) (ih _ _)
theorem cell_av {W : World} {g n T : Nat} {F : NV} {fr : Nat × Nat} (h : W.heap[g]? = some (.cells (av n F) T fr)) {i : Nat} (hi : i < n) : W.cell? ⟨g, i, none⟩ = some (F i) := by
 unfold World.cell?
 rw [h]
 simpa using av_get n F i hi
theorem free_av {W : World} {g n T : Nat} {F : NV} (h : W.heap[g]? = some (.cells (av n F) T (0, 0))) (i : Nat) : W.frozen? ⟨g, i, none⟩ = false := by
 unfold World.frozen?
 rw [h]
 simp
theorem av_toList_get (n : Nat) (F : NV) (j : Nat) (v : Value) (h : (av n F).toList[j]? = some v) : j < n ∧ v = F j := by
 have hj : j < n := by
  have := (List.getElem?_eq_some_iff.1 h).1
  simpa [av_size] using this
 refine ⟨hj, ?_⟩
 have h2 := av_get n F j hj
 rw [Array.getElem?_toList] at h
 rw [h2] at h
 exact (Option.some.inj h).symm
theorem range_av {W : World} {g n T : Nat} {F : NV} {fr : Nat × Nat} (h : W.heap[g]? = some (.cells (av n F) T fr)) (o k : Nat) (F' : NV) (hok : o + k ≤ n) (he : ∀ i, i < k → F (o + i) = F' i) : W.rangeAt g o (av k F').toList := by
 intro j v hv
 obtain ⟨hj, rfl⟩ := av_toList_get k F' j v hv
 rw [cell_av h (by omega), he j hj]
theorem there_av {W : World} {g n T : Nat} {F : NV} (h : W.heap[g]? = some (.cells (av n F) T (0, 0))) (o k : Nat) (hk : o + k ≤ n) : W.there g o k := fun j hj => by
 rw [cell_av h (by omega)]
 exact ⟨rfl, free_av h _⟩
theorem setAll_av (n : Nat) (F F' Fn : NV) (off k : Nat) (hk : off + k ≤ n) (hfn : ∀ j, j < n → (if off ≤ j ∧ j < off + k then F' (j - off) else F j) = Fn j) : setAll (av n F) off (av k F').toList = av n Fn := by
 have hlen : (av k F').toList.length = k := by simp [av_size]
 apply Array.ext_getElem?
 intro i
 rw [setAll_get _ _ _ _ (by rw [hlen, av_size]; exact hk), hlen]
 by_cases hi : i < n
 ·rw [av_get n Fn i hi, ← hfn i hi]
  by_cases h : off ≤ i ∧ i < off + k
  ·rw [if_pos h, if_pos h, Array.getElem?_toList, av_get k F' _ (by omega)]
  ·rw [if_neg h, if_neg h, av_get n F i hi]
 ·rw [if_neg (by omega), Array.getElem?_eq_none (by rw [av_size]; omega), Array.getElem?_eq_none (by rw [av_size]; omega)]
theorem av_one (n : Nat) (F : NV) (h : ∀ i, i < n → (F i).oneCell' = true) : (av n F).all (·.oneCell') = true := by
 rw [Array.all_eq_true]
 intro i hi
 have hi' : i < n := by rw [av_size] at hi; exact hi
 have h2 := av_get n F i hi'
 rw [Array.getElem?_eq_getElem hi] at h2
 rw [Option.some.inj h2]
 exact h i hi'
structure PL (P : Program) (ops : Array Oper) (Q : Exit → Act → World → Prop) (l : List Oper) (a : Act) (w : World) : Prop where
 out : wpList P ops Q l a w
structure KL (P : Program) (ops : Array Oper) (W : World) (Q : Act → Prop) (l : List Oper) (a : Act) : Prop where
 out : wpK P ops W Q l a
section
variable {P : Program} {ops : Array Oper} {rest : List Oper} {o : Oper} {a : Act} {w : World} {c : Ctx} {L : List Blk} {Q : Exit → Act → World → Prop} {K : Act → World → Prop}
theorem rg_lit {id : Nat} {l : List Oper} (h : PL P l.toArray Q l a w) : (Code.region id l.toArray false).wp P Q a w := wp_region_lit h.out
theorem pl_nil (h : Q .normal a w) : PL P ops Q [] a w := ⟨h⟩
theorem want_no (hg : o.guard = none) : Region.wanted o (yielded ops a.tmps) = true := by
 unfold Region.wanted
 rw [hg]
def boolOf : Value → Option Bool
 | .bool b => some b
 | _ => none
theorem yielded_at (j : Nat) (t : Tmp) (hd : (ops.toList[j]?).bind (·.dst) = some t) (v : Value) (hv : a.eval (.tmp t) = v) : yielded ops a.tmps j = boolOf v := by
 have hd' : (ops[j]?).bind (·.dst) = some t := by rw [← Array.getElem?_toList]; exact hd
 have e : a.tmps[t]?.getD undef = v := by rw [← hv]; simp [Act.eval]
 unfold yielded
 rw [hd']
 simp only [Option.bind_some]
 cases h : a.tmps[t]? with
 | none =>
  rw [h] at e
  rw [← e]
  rfl
 | some u =>
  rw [h] at e
  rw [← e]
  cases u <;> rfl
theorem want_on (j : Nat) (b : Bool) (hg : o.guard = some (j, b)) (t : Tmp) (hd : (ops.toList[j]?).bind (·.dst) = some t) (hv : a.eval (.tmp t) = .bool b) : Region.wanted o (yielded ops a.tmps) = true := by
 unfold Region.wanted
 rw [hg]
 simp only
 rw [yielded_at j t hd _ hv]
 simp [boolOf]
theorem want_off (j : Nat) (b : Bool) (hg : o.guard = some (j, b)) (t : Tmp) (hd : (ops.toList[j]?).bind (·.dst) = some t) (hv : a.eval (.tmp t) = .bool (!b)) : Region.wanted o (yielded ops a.tmps) = false := by
 unfold Region.wanted
 rw [hg]
 simp only
 rw [yielded_at j t hd _ hv]
 cases b <;> rfl
theorem au_then (h : K a w) : Exit.then K Q .normal a w := h
theorem au_then_ret (h : Q .ret a w) : Exit.then K Q .ret a w := h
theorem au_then_exit {i : Nat} (h : Q (.exit i) a w) : Exit.then K Q (.exit i) a w := h
theorem au_block {id : Nat} (h : Q .normal a w) : Exit.inBlock id Q .normal a w := h
theorem au_block_ret {id : Nat} (h : Q .ret a w) : Exit.inBlock id Q .ret a w := h
theorem au_block_exit {id : Nat} (h : Q .normal a w) : Exit.inBlock id Q (.exit id) a w := by
 show (if id = id then Q .normal a w else Q (.exit id) a w)
 rw [if_pos rfl]
 exact h
theorem pl_to (hw : Region.wanted o (yielded ops a.tmps) = true) (d : Option Tmp) (hd : o.dst = d) (v : Value) (w' : World) (hrun : (execOp a.eval o).run P w = .ok (.value v) w')
  (h : PL P ops Q rest (a.put d v) w') : PL P ops Q (o :: rest) a w :=
 ⟨Go.BigFrame.wpList_want hw fun _ hK => by
  unfold Oper.wp
  rw [hrun]
  subst hd
  exact hK _ _ h.out⟩
theorem pl_val (hw : Region.wanted o (yielded ops a.tmps) = true) (d : Option Tmp) (hd : o.dst = d) (v : Value) (hrun : ∀ w, (execOp a.eval o).run P w = .ok (.value v) w)
  (h : PL P ops Q rest (a.put d v) w) : PL P ops Q (o :: rest) a w := pl_to hw d hd v w (hrun w) h
theorem pl_skip (hw : Region.wanted o (yielded ops a.tmps) = false) (d : Option Tmp) (hd : o.dst = d) (h : PL P ops Q rest (a.put d undef) w) : PL P ops Q (o :: rest) a w := by
 subst hd
 exact ⟨wpList_skip hw h.out⟩
theorem new_below (W : World) (o : Obj) : Below W.heap.size W (W.alloc o) := (Below.refl _ _).alloc (Nat.le_refl _) _
theorem pl_mk (M : Mem c L w) (hw : Region.wanted o (yielded ops a.tmps) = true) (d : Option Tmp) (hd : o.dst = d) (v : NV) (Z : Obj) (hrun : ∀ w, (execOp a.eval o).run P w = .ok (.value (v w.heap.size)) (w.alloc Z))
  (h : ∀ g w', Mem c (L ++ [⟨g, Z⟩]) w' → PL P ops Q rest (a.put d (v g)) w') : PL P ops Q (o :: rest) a w :=
 pl_to hw d hd _ _ (hrun w) (h w.heap.size (w.alloc Z) (M.new _ Z (new_below w Z) (heap_alloc_new w Z) (Nat.le_refl _)))
theorem pl_new (M : Mem c L w) (hw : Region.wanted o (yielded ops a.tmps) = true) (d : Option Tmp) (hd : o.dst = d) (Z : Obj) (hrun : ∀ w, (execOp a.eval o).run P w = .ok (.value (.pointer (some ⟨w.heap.size, 0, none⟩))) (w.alloc Z))
  (h : ∀ g w', Mem c (L ++ [⟨g, Z⟩]) w' → PL P ops Q rest (a.put d (.pointer (some ⟨g, 0, none⟩))) w') : PL P ops Q (o :: rest) a w :=
 pl_mk M hw d hd (fun g => .pointer (some ⟨g, 0, none⟩)) Z hrun h
theorem pl_callq (hw : Region.wanted o (yielded ops a.tmps) = true) (d : Option Tmp) (hd : o.dst = d) (f : FuncId) (args : Array Value) (hrun : ∀ w, (execOp a.eval o).run P w = .ok (.enter f args) w)
  (hc : Calls P f args w fun e w' => ∃ v, e = .returned v ∧ PL P ops Q rest (a.put d v) w') : PL P ops Q (o :: rest) a w :=
 ⟨Go.BigFrame.wpList_want hw fun _ hK => by
  unfold Oper.wp
  rw [hrun]
  subst hd
  exact hc.mono fun e w' ⟨v, he, hb⟩ => by subst he; exact hK _ _ hb.out⟩
theorem pl_call (M : Mem c L w) (hw : Region.wanted o (yielded ops a.tmps) = true) (d : Option Tmp) (hd : o.dst = d) (f : FuncId) (args : Array Value) (v : Value) (hrun : ∀ w, (execOp a.eval o).run P w = .ok (.enter f args) w)
  (hc : ∀ w, Mem c L w → Calls P f args w fun e w' => e = .returned v ∧ Below w.heap.size w w') (h : ∀ w', Mem c L w' → PL P ops Q rest (a.put d v) w') : PL P ops Q (o :: rest) a w :=
 pl_callq hw d hd f args hrun ((hc w M).mono fun _ w' ⟨he, hb⟩ => ⟨v, he, h w' (M.keep hb)⟩)
theorem pl_calln (M : Mem c L w) (hw : Region.wanted o (yielded ops a.tmps) = true) (d : Option Tmp) (hd : o.dst = d) (f : FuncId) (args : Array Value) (v : NV) (Z : Obj) (hrun : ∀ w, (execOp a.eval o).run P w = .ok (.enter f args) w)
  (hc : ∀ w, Mem c L w → Calls P f args w fun e w' => ∃ g, e = .returned (v g) ∧ w.heap.size ≤ g ∧ w'.heap[g]? = some Z ∧ Below w.heap.size w w') (h : ∀ g w', Mem c (L ++ [⟨g, Z⟩]) w' → PL P ops Q rest (a.put d (v g)) w') : PL P ops Q (o :: rest) a w :=
 pl_callq hw d hd f args hrun ((hc w M).mono fun _ w' ⟨g, he, h1, h2, hb⟩ => ⟨v g, he, h g w' (M.new g Z hb h2 h1)⟩)
theorem pl_callp (M : Mem c L w) (hw : Region.wanted o (yielded ops a.tmps) = true) (d : Option Tmp) (hd : o.dst = d) (f : FuncId) (args : Array Value) (v : Value) (i g : Nat) (Z Z' : Obj) (hi : L[i]? = some ⟨g, Z⟩) (hrun : ∀ w, (execOp a.eval o).run P w = .ok (.enter f args) w)
  (hc : ∀ w, Mem c L w → Calls P f args w fun e w' => e = .returned v ∧ Grw w w' [g] ∧ w'.heap[g]? = some Z') (h : ∀ w', Mem c (L.set i ⟨g, Z'⟩) w' → PL P ops Q rest (a.put d v) w') : PL P ops Q (o :: rest) a w :=
 pl_callq hw d hd f args hrun ((hc w M).mono fun _ w' ⟨he, h1, h2⟩ => ⟨v, he, h w' (M.put i ⟨g, Z⟩ hi Z' h1 h2)⟩)
theorem pl_callp2 (M : Mem c L w) (hw : Region.wanted o (yielded ops a.tmps) = true) (d : Option Tmp) (hd : o.dst = d) (f : FuncId) (args : Array Value) (v : Value) (i j g k : Nat) (Z Y Z' : Obj) (R : Obj → Prop) (hi : L[i]? = some ⟨g, Z⟩) (hj : L[j]? = some ⟨k, Y⟩) (hrun : ∀ w, (execOp a.eval o).run P w = .ok (.enter f args) w)
  (hc : ∀ w, Mem c L w → Calls P f args w fun e w' => ∃ Y', e = .returned v ∧ Grw w w' [g, k] ∧ w'.heap[g]? = some Z' ∧ w'.heap[k]? = some Y' ∧ R Y') (h : ∀ Y' w', R Y' → Mem c ((L.set i ⟨g, Z'⟩).set j ⟨k, Y'⟩) w' → PL P ops Q rest (a.put d v) w') : PL P ops Q (o :: rest) a w :=
 pl_callq hw d hd f args hrun ((hc w M).mono fun _ w' ⟨Y', he, h1, h2, h3, h4⟩ => ⟨v, he, h Y' w' h4 (M.put2 i j ⟨g, Z⟩ ⟨k, Y⟩ hi hj Z' Y' h1 h2 h3)⟩)
theorem pl_load (M : Mem c L w) (hw : Region.wanted o (yielded ops a.tmps) = true) (d : Option Tmp) (hd : o.dst = d) (ty : TypeId) (x : Operand) (ho : o.op = .load ty x) (i g off : Nat) (hx : a.eval x = .pointer (some ⟨g, off, none⟩)) (n T : Nat) (F : NV) (hi : L[i]? = some ⟨g, .cells (av n F) T⟩)
  (k : Nat) (F' : NV) (hp : ∀ j, j < k → F (off + j) = F' j) (hk : off + k ≤ n) (t : TypeDesc) (hu : P.underlying ty = some t) (ht : t.isRow = true) (hz : (P.info? ty).map (·.size) = some k)
  (h : PL P ops Q rest (a.put d (.agg (av k F'))) w) : PL P ops Q (o :: rest) a w := by
 refine pl_to hw d hd (.agg (av k F')) w ?_ h
 unfold execOp
 have hl := run_loadAt_mid (P := P) w g off ty (av k F').toList t (range_av (M.get i hi) off k F' hk hp) hu ht (by rw [hz]; simp [av_size])
 simp only [ho, hx, Sem.run_bind, hl, Result.andThen_ok, Sem.run_pure, Array.toArray_toList]
theorem run_cell {w : World} {g k : Nat} {v : Value} (hc : w.cell? ⟨g, k, none⟩ = some v) (ty : TypeId) (hag : ∀ w, (isAgg ty).run P w = .ok false w) : (Instr.loadAt ty (.pointer (some ⟨g, k, none⟩))).run P w = .ok v w := by
 simp [Instr.loadAt, Instr.sureAddr, loadVar, hag, hc]
theorem pl_cell (M : Mem c L w) (hw : Region.wanted o (yielded ops a.tmps) = true) (d : Option Tmp) (hd : o.dst = d) (ty : TypeId) (x : Operand) (ho : o.op = .load ty x) (g off : Nat) (hx : a.eval x = .pointer (some ⟨g, off, none⟩)) (v : Value) (hag : ∀ w, (isAgg ty).run P w = .ok false w) (hc : ∀ w, Mem c L w → w.cell? ⟨g, off, none⟩ = some v)
  (h : PL P ops Q rest (a.put d v) w) : PL P ops Q (o :: rest) a w := by
 refine pl_to hw d hd v w ?_ h
 have hr := run_cell (P := P) (hc w M) ty hag
 unfold execOp
 simp only [ho, hx, Sem.run_bind, hr, Result.andThen_ok, Sem.run_pure]
theorem Mem.cell {W : World} (M : Mem c L W) (i : Nat) {g n T : Nat} {F : NV} (hi : L[i]? = some ⟨g, .cells (av n F) T⟩) {k : Nat} (hk : k < n) {v : Value} (hv : F k = v) : W.cell? ⟨g, k, none⟩ = some v := by
 rw [cell_av (M.get i hi) hk, hv]
theorem pl_put (M : Mem c L w) (hw : Region.wanted o (yielded ops a.tmps) = true) (hd : o.dst = none) (ty : TypeId) (x y : Operand) (ho : o.op = .store ty x y) (i g off : Nat) (hx : a.eval x = .pointer (some ⟨g, off, none⟩)) (n T : Nat) (F : NV) (hi : L[i]? = some ⟨g, .cells (av n F) T⟩) (k : Nat) (F' Fn : NV)
  (hy : a.eval y = .agg (av k F')) (hz : (P.info? ty).map (·.size) = some k) (hk : off + k ≤ n) (h1 : ∀ j, j < k → (F' j).oneCell' = true) (hfn : ∀ j, j < n → (if off ≤ j ∧ j < off + k then F' (j - off) else F j) = Fn j)
  (h : ∀ w', Mem c (L.set i ⟨g, .cells (av n Fn) T⟩) w' → PL P ops Q rest a w') : PL P ops Q (o :: rest) a w := by
 have R := M.get i hi
 refine ⟨Go.BigFrame.wpList_want hw fun K hK => wp_store_mid ty x y ho g off (av k F') hx hy (by rw [av_size]; exact there_av R off k hk) (by rw [hz, av_size]) (av_one _ _ h1) (hK _ _ ?_)⟩
 rw [hd]
 refine PL.out ?_
 exact h _ (M.put i ⟨g, _⟩ hi _ (grown_setCells g _ _ _) (by rw [heap_setCells g T _ w _ off R, setAll_av n F F' Fn off k hk hfn]))
theorem pl_put1 (M : Mem c L w) (hw : Region.wanted o (yielded ops a.tmps) = true) (hd : o.dst = none) (ty : TypeId) (x y : Operand) (ho : o.op = .store ty x y) (i g off : Nat) (hx : a.eval x = .pointer (some ⟨g, off, none⟩)) (n T : Nat) (F : NV) (hi : L[i]? = some ⟨g, .cells (av n F) T⟩) (v : Value) (Fn : NV)
  (hy : a.eval y = v) (hz : (P.info? ty).map (·.size) = some 1) (hk : off < n) (h1 : v.oneCell' = true) (hc : v.cells = #[v]) (hfn : ∀ j, j < n → (if j = off then v else F j) = Fn j)
  (h : ∀ w', Mem c (L.set i ⟨g, .cells (av n Fn) T⟩) w' → PL P ops Q rest a w') : PL P ops Q (o :: rest) a w := by
 have R := M.get i hi
 have h3 := h (w.setCell ⟨g, off, none⟩ v) (M.put i ⟨g, _⟩ hi _ (grown_setCell w g off v) (by
  rw [heap_setCell_same w g off _ T _ R, av_set]
  congr 2
  exact av_congr fun j hj => by rw [← hfn j hj]; rfl))
 have hrun : (Instr.storeAt ty (.pointer (some ⟨g, off, none⟩)) v).run P w = .ok () (w.setCell ⟨g, off, none⟩ v) := by
  cases hq : P.info? ty with
  | none => simp [hq] at hz
  | some t =>
   have ht : t.size = 1 := by simpa [hq] using hz
   have hcc := run_storeCells_cells (P := P) g off [v] 0 w (by intro j hj; simp at hj; subst hj; simp [cell_av R hk]) (by intro j hj; simp at hj; subst hj; simpa using free_av R off) (by simpa using h1)
   simp only [Nat.add_zero, World.setCells] at hcc
   simp [Instr.storeAt, Instr.sureAddr, storeVar, sizeOf, typeInfo, hq, ht, hc, hcc]
 refine ⟨Go.BigFrame.wpList_want hw fun K hK => ?_⟩
 unfold Oper.wp execOp
 simp only [ho, hx, hy, Sem.run_bind, hrun, Result.andThen_ok, Sem.run_pure]
 show K (a.put o.dst undef) _
 rw [hd]
 exact hK _ _ h3.out
end
section
variable {P : Program} {ops : Array Oper} {rest : List Oper} {o : Oper} {a : Act} {W : World} {c : Ctx} {L : List Blk} {Q : Act → Prop}
theorem k_any (hw : Region.wanted o (yielded ops a.tmps) = true) (d : Option Tmp) (hd : o.dst = d) (v : Value) (hrun : ∀ s : KW W, (execOp a.eval o).run P s.w = .ok (.value v) s.w) (h : KL P ops W Q rest (a.put d v)) : KL P ops W Q (o :: rest) a := by
 subst hd
 refine ⟨?_⟩
 unfold wpK
 rw [if_pos hw]
 refine ⟨v, fun s => ?_, h.out⟩
 unfold keepAt
 rw [hrun]
 exact ⟨rfl, rfl⟩
theorem k_val (hw : Region.wanted o (yielded ops a.tmps) = true) (d : Option Tmp) (hd : o.dst = d) (v : Value) (hrun : ∀ w, (execOp a.eval o).run P w = .ok (.value v) w) (h : KL P ops W Q rest (a.put d v)) : KL P ops W Q (o :: rest) a := k_any hw d hd v (fun s => hrun s.w) h
theorem k_skip (hw : Region.wanted o (yielded ops a.tmps) = false) (d : Option Tmp) (hd : o.dst = d) (h : KL P ops W Q rest (a.put d undef)) : KL P ops W Q (o :: rest) a := by
 subst hd
 refine ⟨?_⟩
 unfold wpK
 rw [if_neg (by rw [hw]; exact Bool.false_ne_true)]
 exact h.out
theorem k_call (M : Mem c L W) (hw : Region.wanted o (yielded ops a.tmps) = true) (d : Option Tmp) (hd : o.dst = d) (f : FuncId) (args : Array Value) (v : Value) (hrun : ∀ w, (execOp a.eval o).run P w = .ok (.enter f args) w)
  (hc : ∀ w, Mem c L w → Calls P f args w fun e w' => e = .returned v ∧ Below w.heap.size w w') (h : KL P ops W Q rest (a.put d v)) : KL P ops W Q (o :: rest) a := by
 subst hd
 refine ⟨?_⟩
 unfold wpK
 rw [if_pos hw]
 refine ⟨v, fun s => ?_, h.out⟩
 unfold keepAt
 rw [hrun]
 exact ⟨rfl, hc s.w (M.keep s.keep)⟩
theorem k_load (M : Mem c L W) (hw : Region.wanted o (yielded ops a.tmps) = true) (d : Option Tmp) (hd : o.dst = d) (ty : TypeId) (x : Operand) (ho : o.op = .load ty x) (i g off : Nat) (hx : a.eval x = .pointer (some ⟨g, off, none⟩)) (n T : Nat) (F : NV) (hi : L[i]? = some ⟨g, .cells (av n F) T⟩)
  (k : Nat) (F' : NV) (hp : ∀ j, j < k → F (off + j) = F' j) (hk : off + k ≤ n) (t : TypeDesc) (hu : P.underlying ty = some t) (ht : t.isRow = true) (hz : (P.info? ty).map (·.size) = some k)
  (h : KL P ops W Q rest (a.put d (.agg (av k F')))) : KL P ops W Q (o :: rest) a := by
 refine k_any hw d hd (.agg (av k F')) (fun s => ?_) h
 unfold execOp
 have hl := run_loadAt_mid (P := P) s.w g off ty (av k F').toList t (range_av ((M.keep s.keep).get i hi) off k F' hk hp) hu ht (by rw [hz]; simp [av_size])
 simp only [ho, hx, Sem.run_bind, hl, Result.andThen_ok, Sem.run_pure, Array.toArray_toList]
theorem k_cell (M : Mem c L W) (hw : Region.wanted o (yielded ops a.tmps) = true) (d : Option Tmp) (hd : o.dst = d) (ty : TypeId) (x : Operand) (ho : o.op = .load ty x) (g off : Nat) (hx : a.eval x = .pointer (some ⟨g, off, none⟩)) (v : Value) (hag : ∀ w, (isAgg ty).run P w = .ok false w) (hc : ∀ w, Mem c L w → w.cell? ⟨g, off, none⟩ = some v)
  (h : KL P ops W Q rest (a.put d v)) : KL P ops W Q (o :: rest) a := by
 refine k_any hw d hd v (fun s => ?_) h
 have hr := run_cell (P := P) (hc s.w (M.keep s.keep)) ty hag
 unfold execOp
 simp only [ho, hx, Sem.run_bind, hr, Result.andThen_ok, Sem.run_pure]
theorem kl_nil (h : Q a) : KL P ops W Q [] a := ⟨h⟩
theorem quiet_of_K : ∀ (l : List Oper) (a : Act), wpK P ops W Q l a → wpQuiet P ops (fun w' => ∃ s : KW W, w' = s.w) Q l a
 | [], _, h => h
 | o :: l, a, h => by
  unfold wpK at h
  unfold wpQuiet
  split
  ·rename_i hw
   rw [if_pos hw] at h
   obtain ⟨v, h1, h2⟩ := h
   refine ⟨v, fun w' => ?_, quiet_of_K l _ h2⟩
   rintro ⟨s, rfl⟩
   have h3 := h1 s
   unfold keepAt at h3
   unfold Oper.quietAt
   generalize (execOp a.eval o).run P s.w = r at *
   cases r with
   | ok x w' =>
    cases x <;> simp only [keepUpon] at h3 <;> simp only [Oper.quietUpon]
    case value => exact h3
    case skip => exact h3
    case enter f args => exact ⟨h3.1, keep_of h3.2⟩
   | halt x w' => simp only [keepUpon] at h3
  ·rename_i hw
   rw [if_neg hw] at h
   exact quiet_of_K l _ h
end
section
variable {P : Program} {W : World} {c : Ctx} {L : List Blk} {Q : Exit → Act → World → Prop} {a : Act}
theorem rg_tail {id : Nat} {l : List Oper} (M : Mem c L W) (n : Nat) (hm : P.follows .mixedOrders = true) (hB : Region.lexTailB .any l.toArray n = true)
  (h0 : KL P l.toArray W (fun a' => ∀ w', Mem c L w' → PL P l.toArray Q (l.drop n) a' w') (l.take n) a) : (Code.region id l.toArray true).wp P Q a W := by
 have h := h0.out
 refine wp_region_keep_tail n hm hB (quiet_of_K _ _ ?_)
 have key : ∀ (l1 : List Oper) (a1 : Act), wpK P l.toArray W (fun a' => ∀ w', Mem c L w' → PL P l.toArray Q (l.drop n) a' w') l1 a1 → wpK P l.toArray W (fun a' => ∀ s : KW W, wpList P l.toArray Q (l.drop n) a' s.w) l1 a1 := by
  intro l1
  induction l1 with
  | nil => intro a1 h1 s; exact (h1 s.w (M.keep s.keep)).out
  | cons o l1 ih =>
   intro a1 h1
   unfold wpK at h1
   unfold wpK
   split
   ·rename_i hw
    rw [if_pos hw] at h1
    obtain ⟨v, h2, h3⟩ := h1
    exact ⟨v, h2, ih _ h3⟩
   ·rename_i hw
    rw [if_neg hw] at h1
    exact ih _ h1
 exact key _ _ h
def AllocsAt (P : Program) : List Oper → List (Tmp × (Nat → Value) × Obj) → Prop
 | _, [] => True
 | [], _ :: _ => False
 | o :: l, (d, v, Z) :: zs => o.dst = some d ∧ o.guard = none ∧ (∀ a w, (execOp (Act.eval a) o).run P w = .ok (.value (v w.heap.size)) (w.alloc Z)) ∧ AllocsAt P l zs
def AllG : List (Tmp × (Nat → Value) × Obj) → (List Nat → Prop) → Prop
 | [], K => K []
 | _ :: zs, K => ∀ g, AllG zs fun gs => K (g :: gs)
theorem AllG.at_ : ∀ (zs : List (Tmp × (Nat → Value) × Obj)) (K : List Nat → Prop), AllG zs K → ∀ gs : List Nat, gs.length = zs.length → K gs
 | [], K, h, [], _ => h
 | _ :: zs, K, h, g :: gs, e => AllG.at_ zs _ (h g) gs (by simpa using e)
 | [], _, _, _ :: _, e => by simp at e
 | _ :: _, _, _, [], e => by simp at e
def blksOf : List (Tmp × (Nat → Value) × Obj) → List Nat → List Blk
 | (_, _, Z) :: zs, g :: gs => ⟨g, Z⟩ :: blksOf zs gs
 | _, _ => []
def putsOf : List (Tmp × (Nat → Value) × Obj) → List Nat → Act → Act
 | (d, v, _) :: zs, g :: gs, a => putsOf zs gs (a.put (some d) (v g))
 | _, _, a => a
theorem allocsAt_get : ∀ (l : List Oper) (zs : List (Tmp × (Nat → Value) × Obj)), AllocsAt P l zs → ∀ (j : Nat) (z : Tmp × (Nat → Value) × Obj), zs[j]? = some z → ∃ o, l[j]? = some o ∧ o.dst = some z.1 ∧ o.guard = none ∧ ∀ a w, (execOp (Act.eval a) o).run P w = .ok (.value (z.2.1 w.heap.size)) (w.alloc z.2.2)
 | _, [], _, j, z, h => by simp at h
 | [], _ :: _, h, _, _, _ => h.elim
 | o :: l, (d, T, k) :: zs, h, 0, z, e => by
  simp at e
  subst e
  exact ⟨o, rfl, h.1, h.2.1, h.2.2.1⟩
 | o :: l, (d, T, k) :: zs, h, j + 1, z, e => by
  obtain ⟨o', h1, h2⟩ := allocsAt_get l zs h.2.2.2 j z (by simpa using e)
  exact ⟨o', by simpa using h1, h2⟩
theorem putE_of (ds : Nat → Option Tmp) (vs : Nat → Nat → Value) : ∀ (zs : List (Tmp × (Nat → Value) × Obj)) (gs : List Nat) (n : Nat) (a : Act), gs.length = zs.length → (∀ j z, zs[j]? = some z → ds (n + j) = some z.1 ∧ vs (n + j) = z.2.1) → putE ds vs ((List.range' n zs.length).zip gs) a = putsOf zs gs a
 | [], [], n, a, _, _ => rfl
 | (d, T, k) :: zs, g :: gs, n, a, e, h => by
  have h0 := h 0 (d, T, k) rfl
  rw [Nat.add_zero] at h0
  show putE ds vs ((List.range' (n + 1) zs.length).zip gs) (a.put (ds n) (vs n g)) = _
  rw [h0.1, h0.2]
  exact putE_of ds vs zs gs (n + 1) _ (by simpa using e) fun j z hz => by
   have := h (j + 1) z (by simpa using hz)
   rwa [show n + (j + 1) = n + 1 + j by omega] at this
 | [], _ :: _, _, _, e, _ => by simp at e
 | _ :: _, [], _, _, e, _ => by simp at e
theorem doneE_of : ∀ (gs : List Nat) (n : Nat) (d : Array Bool), doneE ((List.range' n gs.length).zip gs) d = (List.range' n gs.length).foldl (fun d i => d.setIfInBounds i true) d
 | [], _, _ => rfl
 | _ :: gs, n, d => doneE_of gs (n + 1) (d.setIfInBounds n true)
theorem blks_mem : ∀ (zs : List (Tmp × (Nat → Value) × Obj)) (gs : List Nat) (n : Nat) (Zs : Nat → Obj), (∀ j z, zs[j]? = some z → Zs (n + j) = z.2.2) → ∀ b ∈ blksOf zs gs, ∃ j, (j, b.g) ∈ (List.range' n zs.length).zip gs ∧ b.Z = Zs j
 | [], _, _, _, _, b, h => by simp [blksOf] at h
 | _ :: _, [], _, _, _, b, h => by simp [blksOf] at h
 | (d, T, k) :: zs, g :: gs, n, Zs, hZ, b, h => by
  simp only [blksOf, List.mem_cons] at h
  rcases h with rfl | h
  ·have h0 := hZ 0 (d, T, k) rfl
   exact ⟨n, by simp [List.range'], by simpa using h0.symm⟩
  ·obtain ⟨j, h1, h2⟩ := blks_mem zs gs (n + 1) Zs (fun j z hz => by
    have := hZ (j + 1) z (by simpa using hz)
    rwa [show n + (j + 1) = n + 1 + j by omega] at this) b h
   refine ⟨j, ?_, h2⟩
   simp only [List.length_cons, List.range'_succ, List.zip_cons_cons, List.mem_cons]
   exact .inr h1
theorem blks_g : ∀ (zs : List (Tmp × (Nat → Value) × Obj)) (gs : List Nat), gs.length = zs.length → (blksOf zs gs).map Blk.g = gs
 | [], [], _ => rfl
 | (d, T, k) :: zs, g :: gs, e => by simp [blksOf, blks_g zs gs (by simpa using e)]
 | [], _ :: _, e => by simp at e
 | _ :: _, [], e => by simp at e
theorem sorted_of {E : List (Nat × Nat)} {n k : Nat} (hnd : (E.map Prod.fst).Nodup) (hin : ∀ p ∈ E, n ≤ p.1 ∧ p.1 < n + k) (hlen : E.length = k) : ∃ gs : List Nat, gs.length = k ∧ E.Perm ((List.range' n k).zip gs) := by
 have hex : ∀ j ∈ List.range' n k, ∃ g, (j, g) ∈ E := by
  intro j hj
  refine Classical.byContradiction fun hno => ?_
  have hni : j ∉ E.map Prod.fst := fun h => by
   obtain ⟨p, hp, rfl⟩ := List.mem_map.1 h
   exact hno ⟨p.2, hp⟩
  have hnd2 : (j :: E.map Prod.fst).Nodup := List.nodup_cons.2 ⟨hni, hnd⟩
  have hsub : (j :: E.map Prod.fst) ⊆ List.range' n k := fun x hx => by
   rcases List.mem_cons.1 hx with rfl | hx
   ·exact hj
   ·obtain ⟨p, hp, rfl⟩ := List.mem_map.1 hx
    rw [List.mem_range'_1]
    exact hin p hp
  have := hnd2.length_le_of_subset hsub
  simp at this
  omega
 have hch : ∀ l : List Nat, (∀ j ∈ l, ∃ g, (j, g) ∈ E) → ∃ gs : List Nat, gs.length = l.length ∧ ∀ p ∈ l.zip gs, p ∈ E := by
  intro l
  induction l with
  | nil => intro _; exact ⟨[], rfl, by simp⟩
  | cons j l ih =>
   intro h
   obtain ⟨g, hg⟩ := h j (by simp)
   obtain ⟨gs, h1, h2⟩ := ih fun i hi => h i (by simp [hi])
   exact ⟨g :: gs, by simp [h1], fun p hp => by
    simp only [List.zip_cons_cons, List.mem_cons] at hp
    rcases hp with rfl | hp
    ·exact hg
    ·exact h2 p hp⟩
 obtain ⟨gs, h1, h2⟩ := hch _ hex
 have hl : gs.length = k := by simpa using h1
 refine ⟨gs, hl, ?_⟩
 have hz : ((List.range' n k).zip gs).map Prod.fst = List.range' n k := by
  rw [List.map_fst_zip]
  simp [hl]
 have hndz : ((List.range' n k).zip gs).Nodup := by
  have : (((List.range' n k).zip gs).map Prod.fst).Nodup := by
   rw [hz]
   exact List.nodup_range'
  exact nodup_of_map this
 have hndE : E.Nodup := nodup_of_map hnd
 refine (List.perm_ext_iff_of_nodup hndE hndz).2 fun p => ⟨fun hp => ?_, h2 p⟩
 have h3 : p.1 ∈ ((List.range' n k).zip gs).map Prod.fst := by
  rw [hz, List.mem_range'_1]
  exact hin p hp
 obtain ⟨q, hq, he⟩ := List.mem_map.1 h3
 rw [← fst_one hnd (h2 q hq) hp he]
 exact hq
theorem rg_allocs {id : Nat} {l : List Oper} (M : Mem c L W) (n : Nat) (zs : List (Tmp × (Nat → Value) × Obj)) (hm : P.follows .mixedOrders = true) (hB : lexAllocsB .any l.toArray n (n + zs.length) = true) (hA : AllocsAt P (l.drop n) zs) (hds : (zs.map (·.1)).Nodup)
  (h0 : KL P l.toArray W (fun a' => ∀ w', AllG zs fun gs => Mem c (L ++ blksOf zs gs) w' → PL P l.toArray Q (l.drop (n + zs.length)) (putsOf zs gs a') w') (l.take n) a) : (Code.region id l.toArray true).wp P Q a W := by
 have h := h0.out
 simp only [lexAllocsB, Bool.and_eq_true, decide_eq_true_eq] at hB
 obtain ⟨⟨⟨⟨⟨⟨hsel, hn⟩, hnm⟩, hs⟩, hc⟩, hfr⟩, hlex⟩ := hB
 have hn' : n + zs.length < l.length := by simpa using hn
 have htl : (l.take n).length = n := by simp; omega
 have hdl : (l.drop (n + zs.length)).length = l.toArray.size - (n + zs.length) := by simp
 have inv : HeadInv .any l.toArray (n + zs.length) (Array.replicate l.toArray.size false) :=
  ⟨by simp, fun j oj _ hl => (by rw [getD_replicate_false] at hl; cases hl), fun t _ ht => getD_in (by simpa using ht) (getD_replicate_false _ _)⟩
 have H := HeadM.lex (md := .any) (g := l.toArray.size - (n + zs.length)) hsel hs hc hn hnm (l.take n) 0 _ a (fun j hj => by rw [htl] at hj; simp [hj]) (by simpa using htl) inv (by rw [htl]; exact hlex) h
 refine wp_region_any hm ?_
 have hget := allocsAt_get _ _ hA
 have hdsj : ∀ j z, zs[j]? = some z → (fun i => (zs[i - n]?).map (·.1)) (n + j) = some z.1 ∧ (fun i => ((zs[i - n]?).map (·.2.1)).getD (fun _ => undef)) (n + j) = z.2.1 := fun j z hz => by
  simp only
  rw [show n + j - n = j by omega, hz]
  exact ⟨rfl, rfl⟩
 have hZsj : ∀ j z, zs[j]? = some z → (fun i => ((zs[i - n]?).map fun z => z.2.2).getD (.cells #[] 0)) (n + j) = z.2.2 := fun j z hz => by
  simp only
  rw [show n + j - n = j by omega, hz]
  rfl
 have H2 := HeadM.any (Q := Q) (g := l.toArray.size - (n + zs.length)) (L := fun d a' => (Region.ready .any l.toArray d = List.range' n (n + zs.length - n) ∧ Region.seqB .any l.toArray (l.toArray.size - (n + zs.length)) (n + zs.length) (setR n (n + zs.length) d) = true) ∧ ∀ w', AllG zs fun gs => Mem c (L ++ blksOf zs gs) w' → PL P l.toArray Q (l.drop (n + zs.length)) (putsOf zs gs a') w') (ds := fun i => (zs[i - n]?).map (·.1)) (vs := fun i => ((zs[i - n]?).map (·.2.1)).getD (fun _ => undef)) (Zs := fun i => ((zs[i - n]?).map fun z => z.2.2).getD (.cells #[] 0)) hsel hs hc hn hnm hfr
  (fun j h1 h2 => by
   have hz : zs[j - n]? = some (zs[j - n]'(by omega)) := List.getElem?_eq_getElem _
   obtain ⟨o, ho, hd, hg, hr⟩ := hget (j - n) _ hz
   refine ⟨o, ?_, ?_, hg, ?_⟩
   ·rw [List.getElem?_drop, show n + (j - n) = j by omega] at ho
    simpa using ho
   ·rw [hd]
    simp only [hz, Option.map_some]
   ·intro a w
    rw [hr a w]
    simp only [hz, Option.map_some, Option.getD_some])
  (fun d a' hL => by simpa using hL.1.1)
  (fun d a' hL E w1 hnd hin hlen hK => by
   obtain ⟨gs, hgl, hp⟩ := sorted_of (n := n) (k := zs.length) hnd (fun p hp => by have := hin p hp; omega) (by omega)
   have hseq := hL.1.2
   have e1 : doneE E d = setR n (n + zs.length) d := by
    unfold doneE setR
    rw [hp.foldl_eq' (fun x _ y _ z => by
     by_cases hxy : x.1 = y.1
     ·rw [hxy]
     ·exact Array.setIfInBounds_comm _ _ hxy)]
    have := doneE_of gs n d
    unfold doneE at this
    rw [hgl] at this
    rw [this]
    congr 2
    omega
   have e2 : putE (fun i => (zs[i - n]?).map (·.1)) (fun i => ((zs[i - n]?).map (·.2.1)).getD (fun _ => undef)) E a' = putsOf zs gs a' := by
    rw [← putE_of (fun i => (zs[i - n]?).map (·.1)) (fun i => ((zs[i - n]?).map (·.2.1)).getD (fun _ => undef)) zs gs n a' hgl hdsj]
    unfold putE
    refine hp.foldl_eq' (fun x hx y hy z => ?_) _
    by_cases hxy : x = y
    ·rw [hxy]
    ·refine (Act.put_comm z _ _ fun t ht => ?_)
     intro ht2
     have hx1 := hin x hx
     have hy1 := hin y hy
     have zx : zs[x.1 - n]? = some (zs[x.1 - n]'(by omega)) := List.getElem?_eq_getElem _
     have zy : zs[y.1 - n]? = some (zs[y.1 - n]'(by omega)) := List.getElem?_eq_getElem _
     simp only [zx, zy, Option.map_some, Option.some.injEq] at ht ht2
     have hne : x.1 ≠ y.1 := fun e => hxy (fst_one hnd hx hy e)
     rcases Nat.lt_or_gt_of_ne hne with hlt | hlt
     ·exact absurd (by simp [zx, zy, ht, ht2]) (nodup_ne hds (i := x.1 - n) (j := y.1 - n) (by omega) (by simp; omega))
     ·exact absurd (by simp [zx, zy, ht, ht2]) (nodup_ne hds (i := y.1 - n) (j := x.1 - n) (by omega) (by simp; omega))
   have hM : Mem c (L ++ blksOf zs gs) w1 := by
    refine M.news hK.keep (fun b hb => ?_) (fun b hb => ?_) ?_
    ·obtain ⟨j, h1, h2⟩ := blks_mem zs gs n (fun i => ((zs[i - n]?).map fun z => z.2.2).getD (.cells #[] 0)) hZsj b hb
     rw [h2]
     exact hK.at_ _ (hp.mem_iff.2 h1)
    ·obtain ⟨j, h1, h2⟩ := blks_mem zs gs n (fun i => ((zs[i - n]?).map fun z => z.2.2).getD (.cells #[] 0)) hZsj b hb
     exact hK.ge _ (hp.mem_iff.2 h1)
    ·rw [blks_g zs gs hgl]
     have h3 := hK.nodup
     rw [(hp.map Prod.snd).nodup_iff, List.map_snd_zip (by simp [hgl])] at h3
     exact h3
   have htail := (AllG.at_ zs _ (hL.2 w1) gs hgl hM).out
   have hgo := wpAny_of_seq (md := .any) (Q' := Q) (l.drop (n + zs.length)) (n + zs.length) _ _ w1 (fun j => by simp [List.getElem?_drop]) (by rw [hdl]; exact hseq) htail
   rw [hdl] at hgo
   rw [e1, e2]
   exact hgo)
  (n + zs.length) n [] (Array.replicate l.toArray.size false) a W.drew (by simp) (by simp) (by simp) (by simp) (by simp) inv (by simpa [htl] using H) ⟨(Below.refl _ _).drew, by simp, by simp, by simp, by simp⟩
 rw [show n + zs.length + (l.toArray.size - (n + zs.length)) = l.toArray.size by omega] at H2
 exact H2
end
open Go.RowKit
def ua (x y : Int) : Int := IntKind.wrap .u64 (x + y)
def um (x y : Int) : Int := IntKind.wrap .u64 (x * y)
def un (x y : Int) : Int := IntKind.wrap .u64 (BitVec.ofInt 64 x &&& BitVec.ofInt 64 y).toNat
def uo (x y : Int) : Int := IntKind.wrap .u64 (BitVec.ofInt 64 x ||| BitVec.ofInt 64 y).toNat
def sl (x : Int) (n : Nat) : Int := IntKind.wrap .u64 (x * 2 ^ n)
def sr (x : Int) (n : Nat) : Int := x.fdiv (2 ^ n)
def va (x y : Int) : Int := IntKind.wrap .u32 (x + y)
def vx (x y : Int) : Int := IntKind.wrap .u32 (BitVec.ofInt 32 x ^^^ BitVec.ofInt 32 y).toNat
def vo (x y : Int) : Int := IntKind.wrap .u32 (BitVec.ofInt 32 x ||| BitVec.ofInt 32 y).toNat
def vt (x : Int) : Int := vx 4294967295 x
def vl (x : Int) (n : Nat) : Int := IntKind.wrap .u32 (x * 2 ^ n)
def wi (f : NI) : Nat → Value := fun i => .int .i64 (f i)
def cv (k : IntKind) (x : Int) : Int := IntKind.wrap k x
theorem put_w64 (f : NI) (k : Nat) (v : Int) (j : Nat) : (if j = k then .int .u64 v else w64 f j) = w64 (upd f k v) j := by
 unfold w64 upd
 split <;> rfl
theorem put_w8 (f : NI) (k : Nat) (v : Int) (j : Nat) : (if j = k then .int .u8 v else w8 f j) = w8 (upd f k v) j := by
 unfold w8 upd
 split <;> rfl
theorem put_w32 (f : NI) (k : Nat) (v : Int) (j : Nat) : (if j = k then .int .u32 v else w32 f j) = w32 (upd f k v) j := by
 unfold w32 upd
 split <;> rfl
section
variable {P : Program} {ops : Array Oper} {rest : List Oper} {o : Oper} {a : Act} {w : World} {c : Ctx} {L : List Blk} {Q : Exit → Act → World → Prop}
theorem au_loop {c : Code} (I : Nat → Act → World → Prop) (N : Nat) (h0 : I 0 a w) (round : ∀ j a w, j < N → I j a w → c.wp P (Exit.then (I (j + 1)) Q) a w) (last : ∀ a w, I N a w → c.wp P (Exit.then (fun _ _ => False) Q) a w) : (Code.loop c).wp P Q a w := by
 refine wp_loop_ghost (fun n a w => n ≤ N ∧ I (N - n) a w) N ⟨Nat.le_refl _, by rw [Nat.sub_self]; exact h0⟩ fun n a w ⟨hn, hI⟩ => ?_
 cases n with
 | zero =>
  rw [Nat.sub_zero] at hI
  refine wp_mono (last a w hI) fun e a' w' hq => ?_
  cases e <;> first | exact hq | exact hq.elim
 | succ n =>
  refine wp_mono (round (N - (n + 1)) a w (by omega) hI) fun e a' w' hq => ?_
  rw [show N - (n + 1) + 1 = N - n by omega] at hq
  cases e <;> first | exact hq | exact ⟨n, by omega, by omega, hq⟩
theorem add_at (g o i : Nat) : (⟨g, o, none⟩ : Addr).add i = ⟨g, o + i, none⟩ := by unfold Addr.add; split <;> simp_all
theorem run_ix1 (t : TypeId) (len : Nat) (elem : TypeId) (hu : P.underlying t = some (.array len elem)) (hs : (P.info? elem).map (·.size) = some 1) (x ix : Operand) (ho : o.op = .indexAddr t x ix) (g : Nat) (hx : a.eval x = .pointer (some ⟨g, 0, none⟩)) (k : IntKind) (i : Nat) (hi : a.eval ix = .int k (i : Int)) (hlt : i < len) (w : World) :
  (execOp a.eval o).run P w = .ok (.value (.pointer (some ⟨g, i, none⟩))) w := by
 cases hq : P.info? elem with
 | none => simp [hq] at hs
 | some u =>
  have hsz : u.size = 1 := by simpa [hq] using hs
  unfold execOp
  simp [ho, hx, hi, Instr.indexAt, Instr.sureAddr, asIntOf, run_underlying hu, sizeOf, typeInfo, hq, hsz, add_at, hlt]
theorem run_ixA (t : TypeId) (len : Nat) (elem : TypeId) (hu : P.underlying t = some (.array len elem)) (hs : (P.info? elem).map (·.size) = some 1) (hag : ∀ w, (isAgg elem).run P w = .ok false w) (x ix : Operand) (ho : o.op = .index t x ix) (F : NV) (hx : a.eval x = .agg (av len F)) (k : IntKind) (i : Nat) (hi : a.eval ix = .int k (i : Int)) (hlt : i < len) {v : Value} (hv : F i = v) (w : World) :
  (execOp a.eval o).run P w = .ok (.value v) w := by
 cases hq : P.info? elem with
 | none => simp [hq] at hs
 | some u =>
  have hsz : u.size = 1 := by simpa [hq] using hs
  have hg := av_get len F i hlt
  unfold execOp
  simp [ho, hx, hi, Instr.index, asIntOf, run_underlying hu, sizeOf, typeInfo, hq, hsz, hlt, part, hag, hg, hv]
theorem results_tmp1 {fn : Func} {p : Tmp} (h : fn.results = #[.tmp p]) (tmps : Array Value) (w : World) (v : Value) (hp : tmps.getD p undef = v) : (results fn tmps).run P w = .ok v w := by
 have hp' : tmps[p]?.getD undef = v := by simpa using hp
 simp [results, h, hp']
theorem results_none {fn : Func} (h : fn.results = #[]) (tmps : Array Value) (w : World) : (results fn tmps).run P w = .ok (.tuple #[]) w := by
 simp [results, h]
theorem pl_copyB (M : Mem c L w) (hw : Region.wanted o (yielded ops a.tmps) = true) (d : Option Tmp) (hd : o.dst = d) (dT sT ty elem : TypeId) (hu : P.underlying dT = some (.slice elem)) (hz : (P.info? elem).map (·.size) = some 1) (i g n T : Nat) (F : NV) (hi : L[i]? = some ⟨g, .cells (av n F) T⟩) (i2 g2 n2 T2 : Nat) (F2 : NV) (hi2 : L[i2]? = some ⟨g2, .cells (av n2 F2) T2⟩) (od dl dc os sl sc k : Nat) (hk : k = Nat.min sl dl) (hd1 : od + k ≤ n) (hs1 : os + k ≤ n2) (h1 : ∀ j, j < n2 → (F2 j).oneCell' = true) (Fn : NV) (hfn : ∀ j, j < n → (if od ≤ j ∧ j < od + k then F2 (os + (j - od)) else F j) = Fn j)
  (hrun : ∀ w, (execOp a.eval o).run P w = (do pure (Next.value (← Builtin.copy_ #[dT, sT] ty #[.slice (some ⟨g, od, none⟩) dl dc, .slice (some ⟨g2, os, none⟩) sl sc]))).run P w)
  (h : ∀ w', Mem c (L.set i ⟨g, .cells (av n Fn) T⟩) w' → PL P ops Q rest (a.put d (goInt k)) w') : PL P ops Q (o :: rest) a w := by
 have R := M.get i hi
 have R2 := M.get i2 hi2
 have hl : (av k (fun j => F2 (os + j))).toList.length = k := by simp [av_size]
 have hr := run_copy_cells (P := P) w dT sT ty elem g od dl dc ⟨g2, os, none⟩ sl sc (av k (fun j => F2 (os + j))).toList hu hz (by rw [hl, hk])
  (fun j v hv => by
   obtain ⟨hj, rfl⟩ := av_toList_get _ _ _ _ hv
   rw [add_at]
   exact cell_av R2 (by omega))
  (fun j hj => by rw [hl] at hj; rw [cell_av R (by omega)]; rfl) (fun j hj => free_av R _)
  (fun v hv => by
   obtain ⟨j, hj⟩ := List.mem_iff_getElem?.1 hv
   obtain ⟨hj', rfl⟩ := av_toList_get _ _ _ _ hj
   exact h1 _ (by omega))
 rw [hl] at hr
 refine pl_to hw d hd (goInt k) _ ?_ (h _ (M.put i ⟨g, _⟩ hi _ (grown_setCells g _ _ _) (by rw [heap_setCells g T _ w _ od R, setAll_av n F (fun j => F2 (os + j)) Fn od k hd1 hfn])))
 rw [hrun]
 simp only [Sem.run_bind, hr, Result.andThen_ok, Sem.run_pure]
def bt (s : Yb) (i : Nat) : Int := ((s.data[i]?.getD 0).toNat : Int)
theorem bt_nn (s : Yb) (i : Nat) : 0 ≤ bt s i ∧ bt s i < 256 := by
 unfold bt
 have := (s.data[i]?.getD 0).toNat_lt
 omega
theorem bytes_take (s : Yb) (k : Nat) (hk : k ≤ s.size) : List.take k (List.map (fun b : UInt8 => Value.int .u8 b.toNat) s.data.toList) = (av k (w8 (bt s))).toList := by
 have hsd : s.data.size = s.size := rfl
 apply List.ext_getElem?
 intro i
 by_cases hi : i < k
 ·have e : (av k (w8 (bt s))).toList[i]? = some (w8 (bt s) i) := by rw [Array.getElem?_toList, av_get k _ i hi]
  rw [e, List.getElem?_take_of_lt hi, List.getElem?_map, Array.getElem?_toList]
  unfold w8 bt
  rw [Array.getElem?_eq_getElem (by omega)]
  rfl
 ·rw [List.getElem?_eq_none (by simp; omega), List.getElem?_eq_none (by simp [av_size]; omega)]
theorem pl_copyS (M : Mem c L w) (hw : Region.wanted o (yielded ops a.tmps) = true) (d : Option Tmp) (hd : o.dst = d) (dT sT ty elem : TypeId) (hu : P.underlying dT = some (.slice elem)) (hz : (P.info? elem).map (·.size) = some 1) (i g n T : Nat) (F : NV) (hi : L[i]? = some ⟨g, .cells (av n F) T⟩) (od dl dc : Nat) (s : Yb) (k : Nat) (hk : k = Nat.min s.size dl) (hd1 : od + k ≤ n) (Fn : NV) (hfn : ∀ j, j < n → (if od ≤ j ∧ j < od + k then w8 (bt s) (j - od) else F j) = Fn j)
  (hrun : ∀ w, (execOp a.eval o).run P w = (do pure (Next.value (← Builtin.copy_ #[dT, sT] ty #[.slice (some ⟨g, od, none⟩) dl dc, .string s]))).run P w)
  (h : ∀ w', Mem c (L.set i ⟨g, .cells (av n Fn) T⟩) w' → PL P ops Q rest (a.put d (goInt k)) w') : PL P ops Q (o :: rest) a w := by
 have R := M.get i hi
 have hks : k ≤ s.size := by rw [hk]; exact Nat.min_le_left _ _
 have hl : (av k (w8 (bt s))).toList.length = k := by simp [av_size]
 have hst := run_storeCells_cells (P := P) g od (av k (w8 (bt s))).toList 0 w (fun j hj => by rw [hl] at hj; rw [Nat.add_zero, cell_av R (by omega)]; rfl) (fun j _ => free_av R _)
  (fun v hv => by
   obtain ⟨j, hj⟩ := List.mem_iff_getElem?.1 hv
   obtain ⟨hj', rfl⟩ := av_toList_get _ _ _ _ hj
   rfl)
 have hb := bytes_take s k hks
 refine pl_to hw d hd (goInt k) _ ?_ (h _ (M.put i ⟨g, _⟩ hi _ (grown_setCells g _ _ _) (by rw [heap_setCells g T _ w _ od R, setAll_av n F (w8 (bt s)) Fn od k hd1 hfn])))
 rw [hrun]
 cases hq : P.info? elem with
 | none => simp [hq] at hz
 | some t =>
  simp only [Nat.add_zero] at hst
  have e : (Builtin.copy_ #[dT, sT] ty #[.slice (some ⟨g, od, none⟩) dl dc, .string s]).run P w = .ok (goInt k) (w.setCells g od (av k (w8 (bt s))).toList) := by
   simp only [Builtin.copy_, List.getElem?_toArray, List.getElem?_cons_zero, List.getElem?_cons_succ, Sem.run_bind, run_underlying hu, Result.andThen_ok, Builtin.lenOf, Sem.run_pure, Builtin.firstCells, sizeOf, typeInfo, ← hk]
   simp [hq, hb, hst]
  simp only [Sem.run_bind, e, Result.andThen_ok, Sem.run_pure]
end
theorem results_tmp2 {P : Program} {fn : Func} {p q : Tmp} (h : fn.results = #[.tmp p, .tmp q]) (tmps : Array Value) (w : World) (v u : Value) (hp : tmps.getD p undef = v) (hq : tmps.getD q undef = u) : (results fn tmps).run P w = .ok (.tuple #[v, u]) w := by
 have hp' : tmps[p]?.getD undef = v := by simpa using hp
 have hq' : tmps[q]?.getD undef = u := by simpa using hq
 simp [results, h, hp', hq']
section
variable {P : Program} {ops : Array Oper} {Q : Exit → Act → World → Prop} {md : Region.Mode} {S : World → Prop} {n : Nat}
def wpAnyL (P : Program) (md : Region.Mode) (ops : Array Oper) (Q : Exit → Act → World → Prop) (S : World → Prop) (n : Nat) : Nat → Array Bool → Act → World → Prop
 | 0, listed, a, w => Region.ready md ops listed = [] ∧ Q .normal a w
 | fuel + 1, listed, a, w =>
  (Region.ready md ops listed = [] → Q .normal a w) ∧
  ∀ i ∈ Region.ready md ops listed, wpOp P ops Q i (fun a' w' => (i < n → S w') ∧ wpAnyL P md ops Q S n fuel (listed.setIfInBounds i true) a' w') a w
theorem wpAny_of_L : ∀ (fuel : Nat) (listed : Array Bool) (a : Act) (w : World), wpAnyL P md ops Q S n fuel listed a w → wpAny P md ops Q fuel listed a w
 | 0, _, _, _, h => h
 | fuel + 1, _, _, _, h => ⟨h.1, fun i hi => wpOp_mono (fun a' w' h' => wpAny_of_L fuel _ a' w' h'.2) (h.2 i hi)⟩
theorem wpAnyL_first {i : Nat} {oi : Oper} {v : Value} (hi : ops[i]? = some oi) (hin : i < n) (hs : Region.sinkB md ops n = true) (hc : Region.chainB md ops n = true) (hn : n < ops.size) (hsel : ∀ (j : Nat) (o : Oper) cs b, ops[j]? = some o → o.op ≠ .select cs b)
  (hQ : ∀ c a w, Q (.panic c) (a.put oi.dst v) w → Q (.panic c) a w) :
  ∀ (fuel : Nat) (listed : Array Bool) (a : Act) (w : World), HeadInv md ops n listed →
   (∀ j oj, ops[j]? = some oj → j ≠ i → listed.getD j true = false → (∀ e ∈ oj.after, Region.binds md e = true → e.on ≠ i) → oi.apart ops oj = true) →
   i ∈ Region.ready md ops listed → YieldsIf P ops S oi v a → S w →
   wpAnyL P md ops Q S n fuel (listed.setIfInBounds i true) (a.put oi.dst v) w → wpAnyL P md ops Q S n (fuel + 1) listed a w := by
 intro fuel
 induction fuel with
 | zero =>
  intro listed a w _ _ hr hy hS H
  refine ⟨fun h => (by rw [h] at hr; cases hr), fun j hj => ?_⟩
  by_cases hji : j = i
  ·subst hji
   exact hy.wpOp hi hS ⟨fun _ => hS, H⟩
  ·have h2 := ready_mono hj hji
   rw [H.1] at h2
   cases h2
 | succ fuel ih =>
  intro listed a w inv hfree hr hy hS H
  refine ⟨fun h => (by rw [h] at hr; cases hr), fun j hj => ?_⟩
  by_cases hji : j = i
  ·subst hji
   exact hy.wpOp hi hS ⟨fun _ => hS, H⟩
  ·have h1 := H.2 j (ready_mono hj hji)
   obtain ⟨hjun, oj, hoj, hall⟩ := mem_ready.1 hj
   have hun := (mem_ready.1 hr).1
   have hjn : j < n := Nat.lt_of_not_le fun h => tail_waits hs hc hn inv _ i rfl hin hun j h hj
   have hnot : ∀ e ∈ oj.after, Region.binds md e = true → e.on ≠ i := fun e he hb heq => by
    have h1 := hall e he hb
    rw [heq, getD_both hun] at h1
    cases h1
   have h2 := wpOp_putIf hoj (hfree j oj hoj hji hjun hnot) (fun cs b => hsel i oi cs b hi) (fun cs b => hsel j oj cs b hoj) hQ hy h1
   have hfree' : ∀ k ok, ops[k]? = some ok → k ≠ i → (listed.setIfInBounds j true).getD k true = false → (∀ e ∈ ok.after, Region.binds md e = true → e.on ≠ i) → oi.apart ops ok = true := fun k ok hk hki hku hkn => by
    refine hfree k ok hk hki ?_ hkn
    by_cases hjk : j = k
    ·subst hjk
     exact hjun
    ·rw [getD_set_ne true hjk] at hku
     exact hku
   refine wpOp_mono (fun a' w' h3 => ⟨fun _ => h3.2.1 hjn, ih (listed.setIfInBounds j true) a' w' (inv.set hj hjn) hfree' (ready_mono hr (Ne.symm hji)) h3.1 (h3.2.1 hjn) ?_⟩) h2
   rw [Array.setIfInBounds_comm _ _ hji]
   exact h3.2.2
end
structure HL (P : Program) (ops : Array Oper) (Q : Exit → Act → World → Prop) (S : World → Prop) (n : Nat) (fuel : Nat) (listed : Array Bool) (a : Act) (w : World) : Prop where
 out : (∀ c a d v w, Q (.panic c) (Act.put a d v) w → Q (.panic c) a w) → (Region.sinkB .any ops n = true ∧ Region.chainB .any ops n = true ∧ n < ops.size ∧ Region.noSelect ops = true) → HeadInv .any ops n listed → wpAnyL P .any ops Q S n fuel listed a w
section
variable {P : Program} {ops : Array Oper} {o : Oper} {a : Act} {w : World} {c : Ctx} {L : List Blk} {Q : Exit → Act → World → Prop} {S : World → Prop} {n fuel : Nat} {listed : Array Bool}
theorem rg_held {id : Nat} {l : List Oper} (M : Mem c L w) (Ls : List Blk) (n : Nat) (hn : l.length = n + 1) (hm : P.follows .mixedOrders = true) (hB : (Region.sinkB .any l.toArray n && Region.chainB .any l.toArray n && Region.noSelect l.toArray) = true) (hQ : ∀ c a d v w, Q (.panic c) (Act.put a d v) w → Q (.panic c) a w)
  (h : ∀ w', Mem c L w' → HL P l.toArray Q (Mem c Ls) n (n + 1) (Array.replicate (n + 1) false) a w') : (Code.region id l.toArray true).wp P Q a w := by
 simp only [Bool.and_eq_true] at hB
 have hsz : l.toArray.size = n + 1 := by simpa using hn
 have inv : HeadInv .any l.toArray n (Array.replicate (n + 1) false) :=
  ⟨by simpa using hn.symm, fun j oj _ hl => (by rw [getD_replicate_false] at hl; cases hl), fun t _ ht => getD_in (by simp; omega) (getD_replicate_false _ _)⟩
 have h2 := (h w.drew M.drew).out hQ ⟨hB.1.1, hB.1.2, by omega, hB.2⟩ inv
 refine wp_region_any hm (wpAny_of_L (S := Mem c Ls) (n := n) _ _ _ _ ?_)
 rw [hsz]
 exact h2
theorem hl_val (M : S w) (i : Nat) (hi : ops.toList[i]? = some o) (hin : i < n) (hf : Region.free .any ops listed i = true) (hr : (Region.ready .any ops listed).contains i = true) (hw : Region.wanted o (yielded ops a.tmps) = true) (d : Option Tmp) (hd : o.dst = d) (v : Value) (hrun : ∀ w, S w → (execOp a.eval o).run P w = .ok (.value v) w)
  (h : HL P ops Q S n fuel (listed.setIfInBounds i true) (a.put d v) w) : HL P ops Q S n (fuel + 1) listed a w := by
 subst hd
 have hi' : ops[i]? = some o := by rw [← Array.getElem?_toList]; exact hi
 have hr' : i ∈ Region.ready .any ops listed := by simpa using hr
 exact ⟨fun hQ hB inv => wpAnyL_first hi' hin hB.1 hB.2.1 hB.2.2.1 (Region.noSelect_spec hB.2.2.2) (fun c a w h => hQ c a _ _ w h) fuel listed a w inv (Region.free_spec hi' hf) hr' (.inl ⟨hw, hrun⟩) M (h.out hQ hB (inv.set hr' hin))⟩
theorem hl_skip (M : S w) (i : Nat) (hi : ops.toList[i]? = some o) (hin : i < n) (hf : Region.free .any ops listed i = true) (hr : (Region.ready .any ops listed).contains i = true) (hw : Region.wanted o (yielded ops a.tmps) = false) (d : Option Tmp) (hd : o.dst = d)
  (h : HL P ops Q S n fuel (listed.setIfInBounds i true) (a.put d undef) w) : HL P ops Q S n (fuel + 1) listed a w := by
 subst hd
 have hi' : ops[i]? = some o := by rw [← Array.getElem?_toList]; exact hi
 have hr' : i ∈ Region.ready .any ops listed := by simpa using hr
 exact ⟨fun hQ hB inv => wpAnyL_first hi' hin hB.1 hB.2.1 hB.2.2.1 (Region.noSelect_spec hB.2.2.2) (fun c a w h => hQ c a _ _ w h) fuel listed a w inv (Region.free_spec hi' hf) hr' (.inr ⟨hw, rfl⟩) M (h.out hQ hB (inv.set hr' hin))⟩
theorem hl_cell {Ls : List Blk} (M : Mem c Ls w) (i : Nat) (hi : ops.toList[i]? = some o) (hin : i < n) (hf : Region.free .any ops listed i = true) (hr : (Region.ready .any ops listed).contains i = true) (hw : Region.wanted o (yielded ops a.tmps) = true) (d : Option Tmp) (hd : o.dst = d) (ty : TypeId) (x : Operand) (ho : o.op = .load ty x) (g off : Nat) (hx : a.eval x = .pointer (some ⟨g, off, none⟩)) (v : Value) (hag : ∀ w, (isAgg ty).run P w = .ok false w) (hc : ∀ w, Mem c Ls w → w.cell? ⟨g, off, none⟩ = some v)
  (h : HL P ops Q (Mem c Ls) n fuel (listed.setIfInBounds i true) (a.put d v) w) : HL P ops Q (Mem c Ls) n (fuel + 1) listed a w :=
 hl_val M i hi hin hf hr hw d hd v (fun w' M' => by
  have hr := run_cell (P := P) (hc w' M') ty hag
  unfold execOp
  simp only [ho, hx, Sem.run_bind, hr, Result.andThen_ok, Sem.run_pure]) h
theorem hl_load {Ls : List Blk} (M : Mem c Ls w) (i : Nat) (hi : ops.toList[i]? = some o) (hin : i < n) (hf : Region.free .any ops listed i = true) (hr : (Region.ready .any ops listed).contains i = true) (hw : Region.wanted o (yielded ops a.tmps) = true) (d : Option Tmp) (hd : o.dst = d) (ty : TypeId) (x : Operand) (ho : o.op = .load ty x) (j g off : Nat) (hx : a.eval x = .pointer (some ⟨g, off, none⟩)) (m T : Nat) (F : NV) (hj : Ls[j]? = some ⟨g, .cells (av m F) T⟩)
  (k : Nat) (F' : NV) (hp : ∀ j, j < k → F (off + j) = F' j) (hk : off + k ≤ m) (t : TypeDesc) (hu : P.underlying ty = some t) (ht : t.isRow = true) (hz : (P.info? ty).map (·.size) = some k)
  (h : HL P ops Q (Mem c Ls) n fuel (listed.setIfInBounds i true) (a.put d (.agg (av k F'))) w) : HL P ops Q (Mem c Ls) n (fuel + 1) listed a w :=
 hl_val M i hi hin hf hr hw d hd _ (fun w' M' => by
  unfold execOp
  have hl := run_loadAt_mid (P := P) w' g off ty (av k F').toList t (range_av (M'.get j hj) off k F' hk hp) hu ht (by rw [hz]; simp [av_size])
  simp only [ho, hx, Sem.run_bind, hl, Result.andThen_ok, Sem.run_pure, Array.toArray_toList]) h
theorem wp_unthen {X K : Act → World → Prop} (h : o.wp P a w X (Exit.then K Q)) : o.wp P a w X Q := by
 unfold Oper.wp at *
 generalize (execOp a.eval o).run P w = r at *
 cases r with
 | ok n w' =>
  cases n <;> simp only [Oper.upon] at h ⊢ <;>
   first
    | exact h
    | exact Calls.mono h (fun e w'' he => by cases e <;> exact he)
 | halt x w' => cases x <;> simp only [Oper.upon] at h ⊢ <;> exact h
theorem wpOp_one {i : Nat} {K : Act → World → Prop} (hi : ops[i]? = some o) (h : wpList P ops (Exit.then K Q) [o] a w) : wpOp P ops Q i K a w := by
 unfold wpOp
 simp only [hi]
 unfold wpList at h
 split
 ·rename_i hw
  rw [if_pos hw] at h
  rcases h with h | ⟨h, a', w', h2⟩
  ·exact .inl (Oper.wp_mono (fun a' w' h2 => h2) (wp_unthen h))
  ·exact .inr ⟨h, a', w', h2⟩
 ·rename_i hw
  rw [if_neg hw] at h
  exact h
theorem hl_one (i : Nat) (hin : i < n) (hr : Region.ready .any ops listed = [i]) (hi : ops.toList[i]? = some o)
  (h : PL P ops (Exit.then (fun a' w' => S w' ∧ HL P ops Q S n fuel (listed.setIfInBounds i true) a' w') Q) [o] a w) : HL P ops Q S n (fuel + 1) listed a w := by
 refine ⟨fun hQ hB inv => ⟨fun h0 => (by rw [hr] at h0; cases h0), fun j hj => ?_⟩⟩
 have hj' := hj
 rw [hr] at hj
 obtain rfl := List.mem_singleton.1 hj
 refine wpOp_mono (fun a' w' h2 => ⟨fun _ => h2.1, h2.2.out hQ hB (inv.set hj' hin)⟩) (wpOp_one (by rw [← Array.getElem?_toList]; exact hi) h.out)
theorem hl_end (hr : Region.ready .any ops listed = [n]) (hr2 : Region.ready .any ops (listed.setIfInBounds n true) = []) (hi : ops.toList[n]? = some o)
  (h : PL P ops (Exit.then (fun a' w' => Q .normal a' w') Q) [o] a w) : HL P ops Q S n (fuel + 1) listed a w := by
 refine ⟨fun hQ hB inv => ⟨fun h0 => (by rw [hr] at h0; cases h0), fun j hj => ?_⟩⟩
 rw [hr] at hj
 obtain rfl := List.mem_singleton.1 hj
 refine wpOp_mono (fun a' w' h2 => ⟨fun h => absurd h (Nat.lt_irrefl _), ?_⟩) (wpOp_one (by rw [← Array.getElem?_toList]; exact hi) h.out)
 cases fuel with
 | zero => exact ⟨hr2, h2⟩
 | succ f => exact ⟨fun _ => h2, fun k hk => by rw [hr2] at hk; cases hk⟩
end
open Go.RowKit
structure SB (Z : Obj) (cap : Nat) (l : List Value) : Prop where
 ex : ∃ cs T fr, Z = .cells cs T fr ∧ l.length ≤ cap ∧ cap ≤ cs.size ∧ (∀ i, i < l.length → cs[i]? = l[i]?) ∧ ∀ i, i < cap → (decide (fr.1 ≤ i) && decide (i < fr.2)) = false
theorem SB.le {Z : Obj} {cap : Nat} {l : List Value} (h : SB Z cap l) : l.length ≤ cap := by
 obtain ⟨_, _, _, _, h1, _⟩ := h.ex
 exact h1
theorem SB.cell {Z : Obj} {cap : Nat} {l : List Value} (h : SB Z cap l) {W : World} {g : Nat} (hz : W.heap[g]? = some Z) {i : Nat} {v : Value} (hi : l[i]? = some v) : W.cell? ⟨g, i, none⟩ = some v := by
 obtain ⟨cs, T, fr, rfl, _, _, h3, _⟩ := h.ex
 have hlt := (List.getElem?_eq_some_iff.1 hi).1
 unfold World.cell?
 rw [hz]
 simp only [Option.isSome_none, Bool.false_eq_true, if_false]
 rw [h3 i hlt, hi]
def bs (ns : List Int) : ByteArray := ⟨(ns.map fun n => UInt8.ofNat n.toNat).toArray⟩
def sb (s : Yb) : List Int := s.data.toList.map fun b => (b.toNat : Int)
def vs8 (l : List Int) : List Value := l.map fun x => .int .u8 x
theorem bs_size (l : List Int) : (bs l).size = l.length := by simp [bs, ByteArray.size]
theorem sb_length (s : Yb) : (sb s).length = s.size := by simp [sb]
theorem vs8_length (l : List Int) : (vs8 l).length = l.length := by simp [vs8]
theorem sb_get (s : Yb) (i : Nat) (h : i < s.size) : (sb s)[i]? = some (bt s i) := by
 have h' : i < s.data.size := h
 unfold sb bt
 rw [List.getElem?_map, Array.getElem?_toList, Array.getElem?_eq_getElem h']
 rfl
theorem sb_bs (l : List Int) (h : ∀ x ∈ l, 0 ≤ x ∧ x < 256) : sb (bs l) = l := by
 unfold sb bs
 rw [List.map_map]
 conv => rhs; rw [← List.map_id l]
 refine List.map_congr_left fun x hx => ?_
 have := h x hx
 simp
 omega
theorem bs_sb (s : Yb) : bs (sb s) = s := by
 unfold sb bs
 rw [List.map_map]
 apply ByteArray.ext
 simp only
 conv => rhs; rw [← Array.toArray_toList (xs := s.data)]
 congr 1
 conv => rhs; rw [← List.map_id s.data.toList]
 refine List.map_congr_left fun x _ => ?_
 simp
theorem bt_of_sb (s : Yb) (i : Nat) : bt s i = (sb s).getD i 0 := by
 by_cases h : i < s.size
 ·rw [List.getD_eq_getElem?_getD, sb_get s i h]
  rfl
 ·have h' : s.data.size ≤ i := by have : s.data.size = s.size := rfl; omega
  rw [List.getD_eq_getElem?_getD, List.getElem?_eq_none (by rw [sb_length]; omega)]
  unfold bt
  rw [Array.getElem?_eq_none h']
  rfl
theorem sb_nn (s : Yb) : ∀ x ∈ sb s, 0 ≤ x ∧ x < 256 := by
 intro x hx
 obtain ⟨b, _, rfl⟩ := List.mem_map.1 hx
 have := b.toNat_lt
 omega
section
variable {P : Program} {ops : Array Oper} {rest : List Oper} {o : Oper} {a : Act} {w : World} {c : Ctx} {L : List Blk} {Q : Exit → Act → World → Prop}
theorem rounds_go {c : Code} {n : Nat} (h : c.wp P (Exit.then (Code.rounds P c Q n) Q) a w) : Code.rounds P c Q (n + 1) a w := h
theorem setCells_block (g : Nat) (T : TypeId) (fr : Nat × Nat) : ∀ (vs : List Value) (W : World) (cs : Array Value) (o : Nat), W.heap[g]? = some (.cells cs T fr) → ∃ ds, (W.setCells g o vs).heap[g]? = some (.cells ds T fr) ∧ ds.size = cs.size ∧ ∀ i, ds[i]? = if o ≤ i ∧ i < o + vs.length ∧ i < cs.size then vs[i - o]? else cs[i]?
 | [], W, cs, o, h => ⟨cs, h, rfl, fun i => by rw [if_neg (by simp; omega)]⟩
 | v :: vs, W, cs, o, h => by
  have h1 : (W.setCell ⟨g, o, none⟩ v).heap[g]? = some (.cells (cs.setIfInBounds o v) T fr) := by simp [World.setCell, Array.getElem?_modify, h]
  obtain ⟨ds, h2, h3, h4⟩ := setCells_block g T fr vs _ _ (o + 1) h1
  refine ⟨ds, h2, by simpa using h3, fun i => ?_⟩
  rw [h4 i]
  simp only [Array.size_setIfInBounds, List.length_cons]
  by_cases hi : o + 1 ≤ i ∧ i < o + 1 + vs.length ∧ i < cs.size
  ·rw [if_pos hi, if_pos (by omega), show i - o = (i - (o + 1)) + 1 by omega, List.getElem?_cons_succ]
  ·rw [if_neg hi, Array.getElem?_setIfInBounds]
   by_cases e : o = i
   ·subst e
    by_cases hs : o < cs.size
    ·rw [if_pos rfl, if_pos hs, if_pos (by omega), Nat.sub_self]
     rfl
    ·rw [if_pos rfl, if_neg hs, if_neg (by omega)]
     exact (Array.getElem?_eq_none (by omega)).symm
   ·rw [if_neg e, if_neg (by omega)]
theorem SB.sets {Z : Obj} {cap : Nat} {l : List Value} (h : SB Z cap l) (vs : List Value) (hr : l.length + vs.length ≤ cap) {W : World} {g : Nat} (hz : W.heap[g]? = some Z) : ∃ Z', (W.setCells g l.length vs).heap[g]? = some Z' ∧ SB Z' cap (l ++ vs) := by
 obtain ⟨cs, T, fr, rfl, h1, h2, h3, h4⟩ := h.ex
 obtain ⟨ds, e1, e2, e3⟩ := setCells_block g T fr vs W cs l.length hz
 refine ⟨_, e1, ⟨ds, T, fr, rfl, by simpa using hr, by omega, fun i hi => ?_, h4⟩⟩
 rw [List.length_append] at hi
 rw [e3 i]
 by_cases hl : l.length ≤ i
 ·rw [if_pos (by omega), List.getElem?_append_right hl]
 ·rw [if_neg (by omega), h3 i (by omega), List.getElem?_append_left (by omega)]
theorem SB.take {Z : Obj} {cap : Nat} {l : List Value} (h : SB Z cap l) : SB Z cap [] := by
 obtain ⟨cs, T, fr, e, h1, h2, h3, h4⟩ := h.ex
 exact ⟨cs, T, fr, e, by simp, h2, fun i hi => by simp at hi, h4⟩
theorem pl_appX (M : Mem c L w) (hw : Region.wanted o (yielded ops a.tmps) = true) (d : Option Tmp) (hd : o.dst = d) (t tx ty e : TypeId) (info : TypeInfo) (ht : P.underlying t = some (.slice e)) (hin : P.info? e = some info) (hsz : info.size = 1) (i g n cap : Nat) (Z : Obj) (l : List Value) (hi : L[i]? = some ⟨g, Z⟩) (hs : SB Z cap l) (hn : l.length = n) (x : Value) (m : Nat) (news : List Value) (hsrc : ∀ w, Mem c L w → Src P 1 tx x m news w) (hm : news.length = m) (hroom : n + m ≤ cap)
  (hrun : ∀ w, (execOp a.eval o).run P w = (do pure (Next.value (← Builtin.append_ #[t, tx] ty #[.slice (some ⟨g, 0, none⟩) n cap, x]))).run P w)
  (h : ∀ Z' w', SB Z' cap (l ++ news) → Mem c (L.set i ⟨g, Z'⟩) w' → PL P ops Q rest (a.put d (.slice (some ⟨g, 0, none⟩) (n + m) cap)) w') : PL P ops Q (o :: rest) a w := by
 subst hn hm
 obtain ⟨Z', h2, h3⟩ := hs.sets news hroom (M.get i hi)
 obtain ⟨cs, T, fr, hZ, h4, h5, h6, h7⟩ := hs.ex
 have hg := M.get i hi
 rw [hZ] at hg
 have hr := run_append_room_src (P := P) w t tx ty e info ht hin g 0 l.length cap x news.length news (by rw [hsz]; exact hsrc w M) hroom (fun j hj => by
   rw [hsz, Nat.mul_one, Nat.zero_add]
   unfold World.cell?
   rw [hg]
   simp
   omega) (fun j hj => by
   rw [hsz, Nat.mul_one, Nat.zero_add]
   unfold World.frozen?
   rw [hg]
   exact h7 _ (by show l.length + j < cap; omega))
 rw [hsz, Nat.mul_one, Nat.zero_add] at hr
 refine pl_to hw d hd _ _ ?_ (h Z' _ h3 (M.put i ⟨g, Z⟩ hi Z' (grown_setCells _ _ _ _) h2))
 rw [hrun]
 simp only [Sem.run_bind, hr, Result.andThen_ok, Sem.run_pure]
theorem pl_makeZ (M : Mem c L w) (hw : Region.wanted o (yielded ops a.tmps) = true) (d : Option Tmp) (hd : o.dst = d) (t e : TypeId) (info : TypeInfo) (ht : P.underlying t = some (.slice e)) (hin : P.info? e = some info) (hzv : info.zero = some (.int .u8 0)) (hsz : info.size = 1) (hby : info.bytes ≤ 16) (x y : Operand) (ho : o.op = .makeSlice t x y) (kx ky : IntKind) (cap : Nat) (hx : a.eval x = .int kx (cap : Int)) (hy : a.eval y = .int ky (cap : Int)) (hc : cap < 1000000)
  (h : ∀ g Z w', SB Z cap (vs8 (List.replicate cap 0)) → Mem c (L ++ [⟨g, Z⟩]) w' → PL P ops Q rest (a.put d (.slice (some ⟨g, 0, none⟩) cap cap)) w') : PL P ops Q (o :: rest) a w := by
 have hr := run_make (P := P) w t e info (.int .u8 0) ht hin hzv kx ky (cap : Int) (cap : Int) (by omega) (by omega) (by
  have := Int.mul_le_mul (show (info.bytes : Int) ≤ 16 by omega) (show (cap : Int) ≤ 1000000 by omega) (by omega) (by omega)
  omega) (by omega)
 simp only [Int.toNat_natCast, hsz, Nat.mul_one] at hr
 refine pl_to hw d hd (.slice (some ⟨w.heap.size, 0, none⟩) cap cap) _ ?_ (h w.heap.size (.cells (madeCells #[.int .u8 0] cap) e) (w.alloc (.cells (madeCells #[.int .u8 0] cap) e)) ⟨_, e, (0, 0), rfl, by simp [vs8], by rw [size_madeCells]; exact Nat.le_refl _, fun i hi => ?_, fun i _ => by simp⟩ (M.new _ _ (new_below w _) (heap_alloc_new w _) (Nat.le_refl _)))
 ·unfold execOp
  simp only [ho, hx, hy, Sem.run_bind, Sem.run_pure]
  rw [hr]
  rfl
 ·simp [vs8] at hi
  simp [vs8, madeCells, hi, Nat.mod_one]
theorem pl_make (M : Mem c L w) (hw : Region.wanted o (yielded ops a.tmps) = true) (d : Option Tmp) (hd : o.dst = d) (t e : TypeId) (info : TypeInfo) (zv : Value) (ht : P.underlying t = some (.slice e)) (hin : P.info? e = some info) (hzv : info.zero = some zv) (hsz : info.size = 1) (hby : info.bytes ≤ 16) (x y : Operand) (ho : o.op = .makeSlice t x y) (kx ky : IntKind) (hx : a.eval x = .int kx 0) (cap : Nat) (hy : a.eval y = .int ky (cap : Int)) (hc : cap < 1000000)
  (h : ∀ g Z w', SB Z cap [] → Mem c (L ++ [⟨g, Z⟩]) w' → PL P ops Q rest (a.put d (.slice (some ⟨g, 0, none⟩) 0 cap)) w') : PL P ops Q (o :: rest) a w := by
 have hr := run_make (P := P) w t e info zv ht hin hzv kx ky 0 (cap : Int) (Int.le_refl _) (by omega) (by
  have := Int.mul_le_mul (show (info.bytes : Int) ≤ 16 by omega) (show (cap : Int) ≤ 1000000 by omega) (by omega) (by omega)
  omega) (by omega)
 simp only [Int.toNat_zero, Int.toNat_natCast, hsz, Nat.mul_one] at hr
 refine pl_to hw d hd (.slice (some ⟨w.heap.size, 0, none⟩) 0 cap) _ ?_ (h w.heap.size (.cells (madeCells zv.cells cap) e) (w.alloc (.cells (madeCells zv.cells cap) e)) ⟨_, e, (0, 0), rfl, by simp, by rw [size_madeCells]; exact Nat.le_refl _, fun i hi => by simp at hi, fun i _ => by simp⟩ (M.new _ _ (new_below w _) (heap_alloc_new w _) (Nat.le_refl _)))
 unfold execOp
 simp only [ho, hx, hy, Sem.run_bind, hr, Result.andThen_ok, Sem.run_pure]
end
section
variable {ops : Array Oper} {rest : List Oper} {o : Oper} {a : Act} {w : World} {c : Ctx} {L : List Blk} {Q : Exit → Act → World → Prop}
theorem pl_conv (M : Mem c L w) (hw : Region.wanted o (yielded ops a.tmps) = true) (d : Option Tmp) (hd : o.dst = d) (x : Operand) (ho : o.op = .convert 9 44 x) (s : Yb) (hx : a.eval x = .string s)
  (h : ∀ g cap Z w', SB Z cap (vs8 (sb s)) → Mem c (L ++ [⟨g, Z⟩]) w' → PL Tryz.prog ops Q rest (a.put d (.slice (some ⟨g, 0, none⟩) s.size cap)) w') : PL Tryz.prog ops Q (o :: rest) a w := by
 have hr := run_bytes_of_string (P := Tryz.prog) w 9 44 5 s Tryz.underlying9 Tryz.underlying44 Tryz.underlying5
 have hge : s.size ≤ grownCap w s.size 0 5 := grownCap_ge w s.size 0 5
 generalize grownCap w s.size 0 5 = cap at hr hge
 refine pl_to hw d hd _ _ (by unfold execOp; simp only [ho, hx, Sem.run_bind, hr, Result.andThen_ok, Sem.run_pure]) (h w.heap.size cap (.cells (bytesRow s cap) 5 ((bytesRow s cap).size, (bytesRow s cap).size + 1)) _ ⟨_, _, _, rfl, by rw [vs8_length, sb_length]; exact hge, ?_, fun i hi => ?_, fun i hi => ?_⟩ (M.drew.new _ _ (new_below _ _) (heap_alloc_new w.drew _) (Nat.le_refl _)))
 ·have hs : s.size = s.data.size := rfl
  simp [bytesRow]
  omega
 ·rw [vs8_length, sb_length] at hi
  have hi' : i < s.data.size := hi
  unfold bytesRow vs8
  rw [Array.getElem?_append_left (by simpa using hi'), Array.getElem?_map, Array.getElem?_eq_getElem hi', List.getElem?_map, sb_get s i hi]
  unfold bt
  rw [Array.getElem?_eq_getElem hi']
  rfl
 ·have hs : s.size = s.data.size := rfl
  have hsz : cap ≤ (bytesRow s cap).size := by
   simp [bytesRow]
   omega
  simp
  omega
theorem pl_back (M : Mem c L w) (hw : Region.wanted o (yielded ops a.tmps) = true) (d : Option Tmp) (hd : o.dst = d) (x : Operand) (ho : o.op = .convert 44 9 x) (i g n cap : Nat) (hx : a.eval x = .slice (some ⟨g, 0, none⟩) n cap) (Z : Obj) (hi : L[i]? = some ⟨g, Z⟩) (l : List Int) (cp : Nat) (hs : SB Z cp (vs8 l)) (hn : l.length = n) (hf : ∀ x ∈ l, 0 ≤ x ∧ x < 256)
  (h : PL Tryz.prog ops Q rest (a.put d (.string (bs l))) w) : PL Tryz.prog ops Q (o :: rest) a w := by
 subst hn
 refine pl_to hw d hd _ w ?_ h
 have hl : (l.map fun n => UInt8.ofNat n.toNat).length = l.length := by simp
 have h2 := run_convert_bytes_back (P := Tryz.prog) w 44 9 5 ⟨g, 0, none⟩ cap (l.map fun n => UInt8.ofNat n.toNat) Tryz.underlying44 Tryz.underlying5 Tryz.underlying9 (fun j hj => by
  rw [hl] at hj
  have hv : (vs8 l)[j]? = some (.int .u8 (l[j]'hj)) := by
   unfold vs8
   rw [List.getElem?_map, List.getElem?_eq_getElem hj]
   rfl
  rw [add_at, Nat.zero_add, hs.cell (M.get i hi) hv]
  have := hf _ (List.getElem_mem hj)
  simp
  omega)
 rw [hl] at h2
 unfold execOp
 simp only [ho, hx, Sem.run_bind, h2, Result.andThen_ok, Sem.run_pure]
 rfl
end
open Go.RowKit
def stepA (P : Program) (ops : Array Oper) : Nat → List Oper → Act → World → Option (Act × World)
 | 0, _, a, w => some (a, w)
 | _ + 1, [], _, _ => none
 | n + 1, o :: rest, a, w =>
  match Region.wanted o (yielded ops a.tmps) with
  | true => match (execOp a.eval o).run P w with
   | .ok (.value v) w' => stepA P ops n rest (a.put o.dst v) w'
   | _ => none
  | false => stepA P ops n rest (a.put o.dst undef) w
def actA (P : Program) (ops : Array Oper) (n : Nat) (l : List Oper) (a : Act) (w : World) : Act := match stepA P ops n l a w with
 | some p => p.1
 | none => a
def stepL (P : Program) (ops : Array Oper) : Nat → List Oper → Act → World → Option (List (Value × World) × Act)
 | 0, _, a, _ => some ([], a)
 | _ + 1, [], _, _ => none
 | n + 1, o :: rest, a, w =>
  match Region.wanted o (yielded ops a.tmps) with
  | true => match (execOp a.eval o).run P w with
   | .ok (.value v) w' => match stepL P ops n rest (a.put o.dst v) w' with
    | some (L, A) => some ((v, w') :: L, A)
    | none => none
   | _ => none
  | false => stepL P ops n rest (a.put o.dst undef) w
def valL (P : Program) (ops : Array Oper) (n : Nat) (l : List Oper) (a : Act) (w : World) : List Value := match stepL P ops n l a w with
 | some p => p.1.map Prod.fst
 | none => []
def actL (P : Program) (ops : Array Oper) (n : Nat) (l : List Oper) (a : Act) (w : World) : Act := match stepL P ops n l a w with
 | some p => p.2
 | none => a
def slt (a : Act) : Nat → Value := fun k => a.tmps[k]?.getD undef
def vr (v : NV) (i n : Nat) : List Value := (List.range' i n).map v
def und (n : Nat) : List Value := List.replicate n undef
abbrev fm (l : List Value) : Act := ⟨l.toArray, []⟩
theorem Mem.nf {c : Ctx} {L L' : List Blk} {W : World} (M : Mem c L W) (h : L = L' := by first | (simp only [List.set_cons_zero, List.set_cons_succ, List.cons_append, List.nil_append]; exact rfl) | exact rfl) : Mem c L' W := h ▸ M
theorem exS {a : Act} {F : (Nat → Value) → Act} {R : (Nat → Value) → Prop} (hR : R (slt a)) (h : a = F (slt a) := by kernel_rfl) : ∃ v, a = F v ∧ R v := ⟨slt a, h, hR⟩
section
variable {P : Program} {ops : Array Oper} {l : List Oper} {a : Act} {w W : World} {Q : Exit → Act → World → Prop} {R : Act → Prop}
theorem pl_steps : ∀ (n : Nat) (l : List Oper) (a A : Act) (w w' : World), stepA P ops n l a w = some (A, w') → PL P ops Q (l.drop n) A w' → PL P ops Q l a w
 | 0, _, a, A, w, w', h, k => by
  obtain ⟨rfl, rfl⟩ : a = A ∧ w = w' := by simpa [stepA] using h
  exact k
 | n + 1, [], _, _, _, _, h, _ => by simp [stepA] at h
 | n + 1, o :: rest, a, A, w, w', h, k => by
  unfold stepA at h
  cases e : Region.wanted o (yielded ops a.tmps) with
  | true =>
   rw [e] at h
   simp only at h
   split at h
   ·rename_i v u hr
    exact pl_to e _ rfl v u hr (pl_steps n rest _ A _ w' h k)
   ·cases h
  | false =>
   rw [e] at h
   simp only at h
   exact pl_skip e _ rfl (pl_steps n rest _ A _ w' h k)
theorem rV (n : Nat) (h : PL P ops Q (l.drop n) (actA P ops n l a w) w) (hr : stepA P ops n l a w = some (actA P ops n l a w, w) := by kernel_rfl) : PL P ops Q l a w := pl_steps n l a _ w w hr h
theorem sq {id : Nat} {y : Code} (h : y.wp P Q (actA P l.toArray l.length l a w) w) (hr : stepA P l.toArray l.length l a w = some (actA P l.toArray l.length l a w, w) := by kernel_rfl) : (Code.seq (Code.region id l.toArray false) y).wp P Q a w :=
 wp_seq (rg_lit (pl_steps l.length l a _ w w hr (by rw [List.drop_length]; exact pl_nil (au_then h))))
theorem sR {id : Nat} {l : List Oper} {y : Code} (h : PL P l.toArray (Exit.then (y.wp P Q) Q) l a w) : (Code.seq (Code.region id l.toArray false) y).wp P Q a w := wp_seq (rg_lit h)
theorem nT {K : Act → World → Prop} (h : K a w) : PL P ops (Exit.then K Q) [] a w := pl_nil (au_then h)
structure RnL (P : Program) (ops : Array Oper) (n : Nat) (l : List Oper) (a : Act) (V : List Value) (A : Act) : Prop where
 out : ∀ w, stepL P ops n l a w = some (V.map (fun v => (v, w)), A)
theorem k_steps : ∀ (n : Nat) (l : List Oper) (a : Act) (V : List Value) (A : Act), RnL P ops n l a V A → KL P ops W R (l.drop n) A → KL P ops W R l a
 | 0, _, a, V, A, h, k => by
  have := h.out W
  obtain ⟨-, rfl⟩ : _ ∧ a = A := by simpa [stepL] using this
  exact k
 | n + 1, [], _, _, _, h, _ => by simpa [stepL] using h.out W
 | n + 1, o :: rest, a, V, A, ⟨h⟩, k => by
  unfold stepL at h
  cases e : Region.wanted o (yielded ops a.tmps) with
  | true =>
   simp only [e] at h
   have key : ∀ w, ∃ v V', V = v :: V' ∧ (execOp a.eval o).run P w = .ok (.value v) w ∧ stepL P ops n rest (a.put o.dst v) w = some (V'.map (fun v => (v, w)), A) := fun w => by
    have hw := h w
    split at hw
    ·rename_i v u hr
     split at hw
     ·rename_i L B hs
      cases V with
      | nil => simp at hw
      | cons x V' =>
       simp only [List.map_cons, Option.some.injEq, Prod.mk.injEq, List.cons.injEq] at hw
       obtain ⟨⟨⟨rfl, rfl⟩, rfl⟩, rfl⟩ := hw
       exact ⟨v, V', rfl, hr, hs⟩
     ·cases hw
    ·cases hw
   obtain ⟨v, V', rfl, -, -⟩ := key W
   have key2 : ∀ w, (execOp a.eval o).run P w = .ok (.value v) w ∧ stepL P ops n rest (a.put o.dst v) w = some (V'.map (fun v => (v, w)), A) := fun w => by
    obtain ⟨v2, V2, e2, h1, h2⟩ := key w
    obtain ⟨rfl, rfl⟩ := List.cons.inj e2
    exact ⟨h1, h2⟩
   exact k_val e _ rfl v (fun w => (key2 w).1) (k_steps n rest _ V' A ⟨fun w => (key2 w).2⟩ k)
  | false =>
   simp only [e] at h
   exact k_skip e _ rfl (k_steps n rest _ V A ⟨h⟩ k)
theorem kR (n : Nat) (h : KL P ops W R (l.drop n) (actL P ops n l a W)) (hr : RnL P ops n l a (valL P ops n l a W) (actL P ops n l a W) := by exact ⟨fun _ => by kernel_rfl⟩) : KL P ops W R l a := k_steps n l a _ _ hr h
end
structure Rn (P : Program) (a : Act) (o : Oper) (v : Value) : Prop where
 out : ∀ w, (execOp a.eval o).run P w = .ok (.value v) w
structure Rc (P : Program) (a : Act) (o : Oper) (f : FuncId) (xs : Array Value) : Prop where
 out : ∀ w, (execOp a.eval o).run P w = .ok (.enter f xs) w
structure Ra (P : Program) (a : Act) (o : Oper) (Z : Obj) : Prop where
 out : ∀ w, (execOp a.eval o).run P w = .ok (.value (.pointer (some ⟨w.heap.size, 0, none⟩))) (w.alloc Z)
structure Ev (a : Act) (x : Operand) (v : Value) : Prop where
 out : a.eval x = v
structure Na (P : Program) (ty : TypeId) : Prop where
 out : ∀ w, (isAgg ty).run P w = .ok false w
theorem isRow_of {P : Program} {ty : TypeId} (h : (P.underlying ty).map TypeDesc.isRow = some true) : ∃ t, P.underlying ty = some t ∧ t.isRow = true := by
 cases e : P.underlying ty with
 | none => rw [e] at h; cases h
 | some t => rw [e] at h; exact ⟨t, rfl, by simpa using h⟩
section
variable {P : Program} {ops : Array Oper} {rest : List Oper} {o : Oper} {a : Act} {w W : World} {c : Ctx} {L : List Blk} {Q : Exit → Act → World → Prop} {K : Act → World → Prop} {R : Act → Prop}
theorem pN (M : Mem c L w) (d : Tmp) (Z : Obj) (h : ∀ g w', Mem c (L ++ [⟨g, Z⟩]) w' → PL P ops Q rest (a.put (some d) (.pointer (some ⟨g, 0, none⟩))) w') (hw : Region.wanted o (yielded ops a.tmps) = true := by first | exact want_no rfl | kernel_rfl) (hd : o.dst = some d := by exact rfl) (hr : Ra P a o Z := by exact ⟨fun _ => by kernel_rfl⟩) : PL P ops Q (o :: rest) a w := pl_new M hw (some d) hd Z hr.out h
theorem pC (M : Mem c L w) (d : Tmp) (f : FuncId) (xs : Array Value) (v : Value) (hc : ∀ w, Mem c L w → Calls P f xs w fun e w' => e = .returned v ∧ Below w.heap.size w w') (h : ∀ w', Mem c L w' → PL P ops Q rest (a.put (some d) v) w') (hw : Region.wanted o (yielded ops a.tmps) = true := by first | exact want_no rfl | kernel_rfl) (hd : o.dst = some d := by exact rfl) (hr : Rc P a o f xs := by exact ⟨fun _ => by kernel_rfl⟩) : PL P ops Q (o :: rest) a w := pl_call M hw (some d) hd f xs v hr.out hc h
theorem kC (M : Mem c L W) (d : Tmp) (f : FuncId) (xs : Array Value) (v : Value) (hc : ∀ w, Mem c L w → Calls P f xs w fun e w' => e = .returned v ∧ Below w.heap.size w w') (h : KL P ops W R rest (a.put (some d) v)) (hw : Region.wanted o (yielded ops a.tmps) = true := by first | exact want_no rfl | kernel_rfl) (hd : o.dst = some d := by exact rfl) (hr : Rc P a o f xs := by exact ⟨fun _ => by kernel_rfl⟩) : KL P ops W R (o :: rest) a := k_call M hw (some d) hd f xs v hr.out hc h
theorem pE (M : Mem c L w) (d : Tmp) (g off : Nat) (v : Value) (hc : ∀ w, Mem c L w → w.cell? ⟨g, off, none⟩ = some v) (h : PL P ops Q rest (a.put (some d) v) w) {ty : TypeId} {x : Operand} (hw : Region.wanted o (yielded ops a.tmps) = true := by first | exact want_no rfl | kernel_rfl) (hd : o.dst = some d := by exact rfl) (ho : o.op = .load ty x := by exact rfl) (hx : Ev a x (.pointer (some ⟨g, off, none⟩)) := by exact ⟨by kernel_rfl⟩) (ha : Na P ty := by exact ⟨fun _ => by kernel_rfl⟩) : PL P ops Q (o :: rest) a w := pl_cell M hw (some d) hd ty x ho g off hx.out v ha.out hc h
theorem kE (M : Mem c L W) (d : Tmp) (g off : Nat) (v : Value) (hc : ∀ w, Mem c L w → w.cell? ⟨g, off, none⟩ = some v) (h : KL P ops W R rest (a.put (some d) v)) {ty : TypeId} {x : Operand} (hw : Region.wanted o (yielded ops a.tmps) = true := by first | exact want_no rfl | kernel_rfl) (hd : o.dst = some d := by exact rfl) (ho : o.op = .load ty x := by exact rfl) (hx : Ev a x (.pointer (some ⟨g, off, none⟩)) := by exact ⟨by kernel_rfl⟩) (ha : Na P ty := by exact ⟨fun _ => by kernel_rfl⟩) : KL P ops W R (o :: rest) a := k_cell M hw (some d) hd ty x ho g off hx.out v ha.out hc h
theorem pL (M : Mem c L w) (d : Tmp) (i : Nat) {g n T : Nat} {F : NV} (hi : L[i]? = some ⟨g, .cells (av n F) T⟩) (off k : Nat) (F' : NV) (hp : ∀ j, j < k → F (off + j) = F' j) (h : PL P ops Q rest (a.put (some d) (.agg (av k F'))) w) {ty : TypeId} {x : Operand} (hw : Region.wanted o (yielded ops a.tmps) = true := by first | exact want_no rfl | kernel_rfl) (hd : o.dst = some d := by exact rfl) (ho : o.op = .load ty x := by exact rfl) (hx : Ev a x (.pointer (some ⟨g, off, none⟩)) := by exact ⟨by kernel_rfl⟩) (hk : off + k ≤ n := by decide) (hu : (P.underlying ty).map TypeDesc.isRow = some true := by kernel_rfl) (hz : (P.info? ty).map (·.size) = some k := by kernel_rfl) : PL P ops Q (o :: rest) a w := by
 obtain ⟨t, h1, h2⟩ := isRow_of hu
 exact pl_load M hw (some d) hd ty x ho i g off hx.out n T F hi k F' hp hk t h1 h2 hz h
theorem kL (M : Mem c L W) (d : Tmp) (i : Nat) {g n T : Nat} {F : NV} (hi : L[i]? = some ⟨g, .cells (av n F) T⟩) (off k : Nat) (F' : NV) (hp : ∀ j, j < k → F (off + j) = F' j) (h : KL P ops W R rest (a.put (some d) (.agg (av k F')))) {ty : TypeId} {x : Operand} (hw : Region.wanted o (yielded ops a.tmps) = true := by first | exact want_no rfl | kernel_rfl) (hd : o.dst = some d := by exact rfl) (ho : o.op = .load ty x := by exact rfl) (hx : Ev a x (.pointer (some ⟨g, off, none⟩)) := by exact ⟨by kernel_rfl⟩) (hk : off + k ≤ n := by decide) (hu : (P.underlying ty).map TypeDesc.isRow = some true := by kernel_rfl) (hz : (P.info? ty).map (·.size) = some k := by kernel_rfl) : KL P ops W R (o :: rest) a := by
 obtain ⟨t, h1, h2⟩ := isRow_of hu
 exact k_load M hw (some d) hd ty x ho i g off hx.out n T F hi k F' hp hk t h1 h2 hz h
theorem pA (M : Mem c L w) (d : Tmp) (i n : Nat) (F : NV) (h : PL P ops Q rest (a.put (some d) (.agg (av n F))) w) {g T : Nat} {ty : TypeId} {x : Operand} (hw : Region.wanted o (yielded ops a.tmps) = true := by first | exact want_no rfl | kernel_rfl) (hd : o.dst = some d := by exact rfl) (ho : o.op = .load ty x := by exact rfl) (hi : L[i]? = some ⟨g, .cells (av n F) T⟩ := by exact rfl) (hx : Ev a x (.pointer (some ⟨g, 0, none⟩)) := by exact ⟨by kernel_rfl⟩) (hu : (P.underlying ty).map TypeDesc.isRow = some true := by kernel_rfl) (hz : (P.info? ty).map (·.size) = some n := by kernel_rfl) : PL P ops Q (o :: rest) a w := by
 obtain ⟨t, h1, h2⟩ := isRow_of hu
 exact pl_load M hw (some d) hd ty x ho i g 0 hx.out n T F hi n F (fun j _ => by rw [Nat.zero_add]) (by omega) t h1 h2 hz h
theorem kA (M : Mem c L W) (d : Tmp) (i n : Nat) (F : NV) (h : KL P ops W R rest (a.put (some d) (.agg (av n F)))) {g T : Nat} {ty : TypeId} {x : Operand} (hw : Region.wanted o (yielded ops a.tmps) = true := by first | exact want_no rfl | kernel_rfl) (hd : o.dst = some d := by exact rfl) (ho : o.op = .load ty x := by exact rfl) (hi : L[i]? = some ⟨g, .cells (av n F) T⟩ := by exact rfl) (hx : Ev a x (.pointer (some ⟨g, 0, none⟩)) := by exact ⟨by kernel_rfl⟩) (hu : (P.underlying ty).map TypeDesc.isRow = some true := by kernel_rfl) (hz : (P.info? ty).map (·.size) = some n := by kernel_rfl) : KL P ops W R (o :: rest) a := by
 obtain ⟨t, h1, h2⟩ := isRow_of hu
 exact k_load M hw (some d) hd ty x ho i g 0 hx.out n T F hi n F (fun j _ => by rw [Nat.zero_add]) (by omega) t h1 h2 hz h
theorem pP (M : Mem c L w) (i : Nat) {g n T : Nat} {F : NV} (hi : L[i]? = some ⟨g, .cells (av n F) T⟩) (off : Nat) (v : Value) (Fn : NV) (hk : off < n) (hfn : ∀ j, j < n → (if j = off then v else F j) = Fn j) (h : ∀ w', Mem c (L.set i ⟨g, .cells (av n Fn) T⟩) w' → PL P ops Q rest a w') {ty : TypeId} {x y : Operand} (hw : Region.wanted o (yielded ops a.tmps) = true := by first | exact want_no rfl | kernel_rfl) (hd : o.dst = none := by exact rfl) (ho : o.op = .store ty x y := by exact rfl) (hx : Ev a x (.pointer (some ⟨g, off, none⟩)) := by exact ⟨by kernel_rfl⟩) (hy : Ev a y v := by exact ⟨by kernel_rfl⟩) (hz : (P.info? ty).map (·.size) = some 1 := by kernel_rfl) (h1 : v.oneCell' = true := by exact rfl) (hc : v.cells = #[v] := by exact rfl) : PL P ops Q (o :: rest) a w :=
 pl_put1 M hw hd ty x y ho i g off hx.out n T F hi v Fn hy.out hz hk h1 hc hfn h
theorem pH (d : Tmp) (v : Value) (hr : ∀ w, (execOp a.eval o).run P w = .ok (.value v) w) (h : PL P ops Q rest (a.put (some d) v) w) (hw : Region.wanted o (yielded ops a.tmps) = true := by first | exact want_no rfl | kernel_rfl) (hd : o.dst = some d := by exact rfl) : PL P ops Q (o :: rest) a w := pl_val hw (some d) hd v hr h
theorem kH (d : Tmp) (v : Value) (hr : ∀ w, (execOp a.eval o).run P w = .ok (.value v) w) (h : KL P ops W R rest (a.put (some d) v)) (hw : Region.wanted o (yielded ops a.tmps) = true := by first | exact want_no rfl | kernel_rfl) (hd : o.dst = some d := by exact rfl) : KL P ops W R (o :: rest) a := k_val hw (some d) hd v hr h
theorem jT (p : Prop) [Decidable p] (hp : p) (hr : Rn P a o (.bool (decide p)) := by exact ⟨fun _ => by kernel_rfl⟩) (w : World) : (execOp a.eval o).run P w = .ok (.value (.bool true)) w := (hr.out w).trans (by rw [decide_eq_true hp])
theorem jF (p : Prop) [Decidable p] (hp : ¬ p) (hr : Rn P a o (.bool (decide p)) := by exact ⟨fun _ => by kernel_rfl⟩) (w : World) : (execOp a.eval o).run P w = .ok (.value (.bool false)) w := (hr.out w).trans (by rw [decide_eq_false hp])
theorem jD (p : Prop) [Decidable p] (hp : p) (hr : Rn P a o (.bool (!(decide p))) := by exact ⟨fun _ => by kernel_rfl⟩) (w : World) : (execOp a.eval o).run P w = .ok (.value (.bool false)) w := (hr.out w).trans (by rw [decide_eq_true hp]; rfl)
theorem jU (p : Prop) [Decidable p] (hp : ¬ p) (hr : Rn P a o (.bool (!(decide p))) := by exact ⟨fun _ => by kernel_rfl⟩) (w : World) : (execOp a.eval o).run P w = .ok (.value (.bool true)) w := (hr.out w).trans (by rw [decide_eq_false hp]; rfl)
theorem jV (x : Int) {v : Int} (h : x = v) (h0 : -9223372036854775808 ≤ x) (h1 : x < 9223372036854775808) (hr : Rn P a o (.int .i64 (IntKind.wrap .i64 x)) := by exact ⟨fun _ => by kernel_rfl⟩) (w : World) : (execOp a.eval o).run P w = .ok (.value (.int .i64 v)) w := (hr.out w).trans (by
 rw [show IntKind.wrap .i64 x = x by simp [IntKind.wrap, IntKind.signed, IntKind.bits, go_sem]; omega, h])
end
section
variable {P : Program} {ops : Array Oper} {o : Oper} {a : Act} {w : World} {Q : Exit → Act → World → Prop} {S : World → Prop} {n fuel : Nat} {listed : Array Bool}
theorem qV (M : S w) (i : Nat) (d : Tmp) (v : Value) (h : HL P ops Q S n fuel (listed.setIfInBounds i true) (a.put (some d) v) w) (hi : ops.toList[i]? = some o := by exact rfl) (hin : i < n := by decide) (hf : Region.free .any ops listed i = true := by kernel_rfl) (hr : (Region.ready .any ops listed).contains i = true := by kernel_rfl) (hw : Region.wanted o (yielded ops a.tmps) = true := by first | exact want_no rfl | kernel_rfl) (hd : o.dst = some d := by exact rfl) (hrun : Rn P a o v := by exact ⟨fun _ => by kernel_rfl⟩) : HL P ops Q S n (fuel + 1) listed a w := hl_val M i hi hin hf hr hw (some d) hd v (fun w _ => hrun.out w) h
end
section
variable {P : Program} {ops : Array Oper} {rest : List Oper} {o : Oper} {a : Act} {w W : World} {c : Ctx} {L : List Blk} {Q : Exit → Act → World → Prop} {R : Act → Prop}
theorem ZT (d : Tmp) (p : Prop) [Decidable p] (h : PL P ops Q rest (a.put (some d) (.bool true)) w) (hp : p := by first | omega | decide) (hr : Rn P a o (.bool (decide p)) := by exact ⟨fun _ => by kernel_rfl⟩) (hw : Region.wanted o (yielded ops a.tmps) = true := by first | exact want_no rfl | kernel_rfl) (hd : o.dst = some d := by exact rfl) : PL P ops Q (o :: rest) a w := pH d _ (jT p hp hr) h hw hd
theorem eT (d : Tmp) (p : Prop) [Decidable p] (h : KL P ops W R rest (a.put (some d) (.bool true))) (hp : p := by first | omega | decide) (hr : Rn P a o (.bool (decide p)) := by exact ⟨fun _ => by kernel_rfl⟩) (hw : Region.wanted o (yielded ops a.tmps) = true := by first | exact want_no rfl | kernel_rfl) (hd : o.dst = some d := by exact rfl) : KL P ops W R (o :: rest) a := kH d _ (jT p hp hr) h hw hd
theorem ZF (d : Tmp) (p : Prop) [Decidable p] (h : PL P ops Q rest (a.put (some d) (.bool false)) w) (hp : ¬ p := by first | omega | decide) (hr : Rn P a o (.bool (decide p)) := by exact ⟨fun _ => by kernel_rfl⟩) (hw : Region.wanted o (yielded ops a.tmps) = true := by first | exact want_no rfl | kernel_rfl) (hd : o.dst = some d := by exact rfl) : PL P ops Q (o :: rest) a w := pH d _ (jF p hp hr) h hw hd
theorem eF (d : Tmp) (p : Prop) [Decidable p] (h : KL P ops W R rest (a.put (some d) (.bool false))) (hp : ¬ p := by first | omega | decide) (hr : Rn P a o (.bool (decide p)) := by exact ⟨fun _ => by kernel_rfl⟩) (hw : Region.wanted o (yielded ops a.tmps) = true := by first | exact want_no rfl | kernel_rfl) (hd : o.dst = some d := by exact rfl) : KL P ops W R (o :: rest) a := kH d _ (jF p hp hr) h hw hd
theorem ZD (d : Tmp) (p : Prop) [Decidable p] (h : PL P ops Q rest (a.put (some d) (.bool false)) w) (hp : p := by first | omega | decide) (hr : Rn P a o (.bool (!(decide p))) := by exact ⟨fun _ => by kernel_rfl⟩) (hw : Region.wanted o (yielded ops a.tmps) = true := by first | exact want_no rfl | kernel_rfl) (hd : o.dst = some d := by exact rfl) : PL P ops Q (o :: rest) a w := pH d _ (jD p hp hr) h hw hd
theorem ZS (d : Tmp) (p : Prop) [Decidable p] (h : PL P ops Q rest (a.put (some d) (.bool true)) w) (hp : ¬ p := by first | omega | decide) (hr : Rn P a o (.bool (!(decide p))) := by exact ⟨fun _ => by kernel_rfl⟩) (hw : Region.wanted o (yielded ops a.tmps) = true := by first | exact want_no rfl | kernel_rfl) (hd : o.dst = some d := by exact rfl) : PL P ops Q (o :: rest) a w := pH d _ (jU p hp hr) h hw hd
theorem ZI (d : Tmp) (x v : Int) (h : PL P ops Q rest (a.put (some d) (.int .i64 v)) w) (e1 : x = v := by omega) (e2 : -9223372036854775808 ≤ x := by omega) (e3 : x < 9223372036854775808 := by omega) (hr : Rn P a o (.int .i64 (IntKind.wrap .i64 x)) := by exact ⟨fun _ => by kernel_rfl⟩) (hw : Region.wanted o (yielded ops a.tmps) = true := by first | exact want_no rfl | kernel_rfl) (hd : o.dst = some d := by exact rfl) : PL P ops Q (o :: rest) a w := pH d _ (jV x e1 e2 e3 hr) h hw hd
theorem eI (d : Tmp) (x v : Int) (h : KL P ops W R rest (a.put (some d) (.int .i64 v))) (e1 : x = v := by omega) (e2 : -9223372036854775808 ≤ x := by omega) (e3 : x < 9223372036854775808 := by omega) (hr : Rn P a o (.int .i64 (IntKind.wrap .i64 x)) := by exact ⟨fun _ => by kernel_rfl⟩) (hw : Region.wanted o (yielded ops a.tmps) = true := by first | exact want_no rfl | kernel_rfl) (hd : o.dst = some d := by exact rfl) : KL P ops W R (o :: rest) a := kH d _ (jV x e1 e2 e3 hr) h hw hd
theorem ZQ (d : Tmp) (k : IntKind) (x : Int) {v : Int} (e1 : x = v) (h : PL P ops Q rest (a.put (some d) (.int k v)) w) (hr : Rn P a o (.int k x) := by exact ⟨fun _ => by kernel_rfl⟩) (hw : Region.wanted o (yielded ops a.tmps) = true := by first | exact want_no rfl | kernel_rfl) (hd : o.dst = some d := by exact rfl) : PL P ops Q (o :: rest) a w := pH d _ (fun w => (hr.out w).trans (by rw [e1])) h hw hd
theorem eQ (d : Tmp) (k : IntKind) (x : Int) {v : Int} (e1 : x = v) (h : KL P ops W R rest (a.put (some d) (.int k v))) (hr : Rn P a o (.int k x) := by exact ⟨fun _ => by kernel_rfl⟩) (hw : Region.wanted o (yielded ops a.tmps) = true := by first | exact want_no rfl | kernel_rfl) (hd : o.dst = some d := by exact rfl) : KL P ops W R (o :: rest) a := kH d _ (fun w => (hr.out w).trans (by rw [e1])) h hw hd
def ixN (P : Program) (t : TypeId) : Option (Nat × Option Nat) := match P.underlying t with
 | some (.array n e) => some (n, (P.info? e).map (·.size))
 | _ => none
theorem run_zx (k : IntKind) (g i n : Nat) {t : TypeId} {x ix : Operand} (ho : o.op = .indexAddr t x ix) (hx : Ev a x (.pointer (some ⟨g, 0, none⟩))) (hi : Ev a ix (.int k (i : Int))) (hu : ixN P t = some (n, some 1)) (hlt : i < n) (w : World) : (execOp a.eval o).run P w = .ok (.value (.pointer (some ⟨g, i, none⟩))) w := by
 unfold ixN at hu
 split at hu
 ·rename_i m e h
  obtain ⟨rfl, h2⟩ : m = n ∧ (P.info? e).map (·.size) = some 1 := by simpa using hu
  exact run_ix1 t m e h h2 x ix ho g hx.out k i hi.out hlt w
 ·cases hu
theorem ZX (d : Tmp) (k : IntKind) (g i n : Nat) (h : PL P ops Q rest (a.put (some d) (.pointer (some ⟨g, i, none⟩))) w) {t : TypeId} {x ix : Operand} (ho : o.op = .indexAddr t x ix := by exact rfl) (hx : Ev a x (.pointer (some ⟨g, 0, none⟩)) := by exact ⟨by kernel_rfl⟩) (hi : Ev a ix (.int k (i : Int)) := by exact ⟨by kernel_rfl⟩) (hu : ixN P t = some (n, some 1) := by kernel_rfl) (hlt : i < n := by first | omega | decide) (hw : Region.wanted o (yielded ops a.tmps) = true := by first | exact want_no rfl | kernel_rfl) (hd : o.dst = some d := by exact rfl) : PL P ops Q (o :: rest) a w := pH d _ (run_zx k g i n ho hx hi hu hlt) h hw hd
theorem eX (d : Tmp) (k : IntKind) (g i n : Nat) (h : KL P ops W R rest (a.put (some d) (.pointer (some ⟨g, i, none⟩)))) {t : TypeId} {x ix : Operand} (ho : o.op = .indexAddr t x ix := by exact rfl) (hx : Ev a x (.pointer (some ⟨g, 0, none⟩)) := by exact ⟨by kernel_rfl⟩) (hi : Ev a ix (.int k (i : Int)) := by exact ⟨by kernel_rfl⟩) (hu : ixN P t = some (n, some 1) := by kernel_rfl) (hlt : i < n := by first | omega | decide) (hw : Region.wanted o (yielded ops a.tmps) = true := by first | exact want_no rfl | kernel_rfl) (hd : o.dst = some d := by exact rfl) : KL P ops W R (o :: rest) a := kH d _ (run_zx k g i n ho hx hi hu hlt) h hw hd
theorem ZE (M : Mem c L w) (d : Tmp) (i off : Nat) {g n T : Nat} {F : NV} (h : PL P ops Q rest (a.put (some d) (F off)) w) {ty : TypeId} {x : Operand} (hw : Region.wanted o (yielded ops a.tmps) = true := by first | exact want_no rfl | kernel_rfl) (hd : o.dst = some d := by exact rfl) (ho : o.op = .load ty x := by exact rfl) (hi : L[i]? = some ⟨g, .cells (av n F) T⟩ := by exact rfl) (hk : off < n := by first | omega | decide) (hx : Ev a x (.pointer (some ⟨g, off, none⟩)) := by exact ⟨by kernel_rfl⟩) (ha : Na P ty := by exact ⟨fun _ => by kernel_rfl⟩) : PL P ops Q (o :: rest) a w := pE M d g off (F off) (fun _ M => M.cell i hi hk rfl) h hw hd ho hx ha
theorem eE (M : Mem c L W) (d : Tmp) (i off : Nat) {g n T : Nat} {F : NV} (h : KL P ops W R rest (a.put (some d) (F off))) {ty : TypeId} {x : Operand} (hw : Region.wanted o (yielded ops a.tmps) = true := by first | exact want_no rfl | kernel_rfl) (hd : o.dst = some d := by exact rfl) (ho : o.op = .load ty x := by exact rfl) (hi : L[i]? = some ⟨g, .cells (av n F) T⟩ := by exact rfl) (hk : off < n := by first | omega | decide) (hx : Ev a x (.pointer (some ⟨g, off, none⟩)) := by exact ⟨by kernel_rfl⟩) (ha : Na P ty := by exact ⟨fun _ => by kernel_rfl⟩) : KL P ops W R (o :: rest) a := kE M d g off (F off) (fun _ M => M.cell i hi hk rfl) h hw hd ho hx ha
theorem ZP8 (M : Mem c L w) (i off : Nat) (y : Int) {g n T : Nat} {f : NI} (h : ∀ w2, Mem c (L.set i ⟨g, .cells (av n (w8 (upd f off y))) T⟩) w2 → PL P ops Q rest a w2) {ty : TypeId} {x z : Operand} (hw : Region.wanted o (yielded ops a.tmps) = true := by first | exact want_no rfl | kernel_rfl) (hd : o.dst = none := by exact rfl) (ho : o.op = .store ty x z := by exact rfl) (hi : L[i]? = some ⟨g, .cells (av n (w8 f)) T⟩ := by exact rfl) (hk : off < n := by first | omega | decide) (hx : Ev a x (.pointer (some ⟨g, off, none⟩)) := by exact ⟨by kernel_rfl⟩) (hy : Ev a z (.int .u8 y) := by exact ⟨by kernel_rfl⟩) (hz : (P.info? ty).map (·.size) = some 1 := by kernel_rfl) : PL P ops Q (o :: rest) a w := pP M i hi off (.int .u8 y) (w8 (upd f off y)) hk (fun j _ => put_w8 _ _ _ j) h hw hd ho hx hy hz
theorem ZP32 (M : Mem c L w) (i off : Nat) (y : Int) {g n T : Nat} {f : NI} (h : ∀ w2, Mem c (L.set i ⟨g, .cells (av n (w32 (upd f off y))) T⟩) w2 → PL P ops Q rest a w2) {ty : TypeId} {x z : Operand} (hw : Region.wanted o (yielded ops a.tmps) = true := by first | exact want_no rfl | kernel_rfl) (hd : o.dst = none := by exact rfl) (ho : o.op = .store ty x z := by exact rfl) (hi : L[i]? = some ⟨g, .cells (av n (w32 f)) T⟩ := by exact rfl) (hk : off < n := by first | omega | decide) (hx : Ev a x (.pointer (some ⟨g, off, none⟩)) := by exact ⟨by kernel_rfl⟩) (hy : Ev a z (.int .u32 y) := by exact ⟨by kernel_rfl⟩) (hz : (P.info? ty).map (·.size) = some 1 := by kernel_rfl) : PL P ops Q (o :: rest) a w := pP M i hi off (.int .u32 y) (w32 (upd f off y)) hk (fun j _ => put_w32 _ _ _ j) h hw hd ho hx hy hz
theorem ZP64 (M : Mem c L w) (i off : Nat) (y : Int) {g n T : Nat} {f : NI} (h : ∀ w2, Mem c (L.set i ⟨g, .cells (av n (w64 (upd f off y))) T⟩) w2 → PL P ops Q rest a w2) {ty : TypeId} {x z : Operand} (hw : Region.wanted o (yielded ops a.tmps) = true := by first | exact want_no rfl | kernel_rfl) (hd : o.dst = none := by exact rfl) (ho : o.op = .store ty x z := by exact rfl) (hi : L[i]? = some ⟨g, .cells (av n (w64 f)) T⟩ := by exact rfl) (hk : off < n := by first | omega | decide) (hx : Ev a x (.pointer (some ⟨g, off, none⟩)) := by exact ⟨by kernel_rfl⟩) (hy : Ev a z (.int .u64 y) := by exact ⟨by kernel_rfl⟩) (hz : (P.info? ty).map (·.size) = some 1 := by kernel_rfl) : PL P ops Q (o :: rest) a w := pP M i hi off (.int .u64 y) (w64 (upd f off y)) hk (fun j _ => put_w64 _ _ _ j) h hw hd ho hx hy hz
theorem ZG (M : Mem c L w) (i n : Nat) (F' : NV) {g T : Nat} {F : NV} (h : ∀ w2, Mem c (L.set i ⟨g, .cells (av n F') T⟩) w2 → PL P ops Q rest a w2) {ty : TypeId} {x y : Operand} (hw : Region.wanted o (yielded ops a.tmps) = true := by first | exact want_no rfl | kernel_rfl) (hd : o.dst = none := by exact rfl) (ho : o.op = .store ty x y := by exact rfl) (hi : L[i]? = some ⟨g, .cells (av n F) T⟩ := by exact rfl) (h1 : ∀ j, j < n → (F' j).oneCell' = true := by exact fun _ _ => rfl) (hx : Ev a x (.pointer (some ⟨g, 0, none⟩)) := by exact ⟨by kernel_rfl⟩) (hy : Ev a y (.agg (av n F')) := by exact ⟨by kernel_rfl⟩) (hz : (P.info? ty).map (·.size) = some n := by kernel_rfl) : PL P ops Q (o :: rest) a w := pl_put M hw hd ty x y ho i g 0 hx.out n T F hi n F' F' hy.out hz (by omega) h1 (fun j hj => by rw [if_pos (by omega), Nat.sub_zero]) h
theorem ZC (M : Mem c L w) (d : Tmp) {f : FuncId} {xs : Array Value} {v : Value} (hc : ∀ w, Mem c L w → Calls P f xs w fun e w' => e = .returned v ∧ Below w.heap.size w w') (h : ∀ w', Mem c L w' → PL P ops Q rest (a.put (some d) v) w') (hw : Region.wanted o (yielded ops a.tmps) = true := by first | exact want_no rfl | kernel_rfl) (hd : o.dst = some d := by exact rfl) (hr : Rc P a o f xs := by exact ⟨fun _ => by kernel_rfl⟩) : PL P ops Q (o :: rest) a w := pC M d f xs v hc h hw hd hr
theorem eC (M : Mem c L W) (d : Tmp) {f : FuncId} {xs : Array Value} {v : Value} (hc : ∀ w, Mem c L w → Calls P f xs w fun e w' => e = .returned v ∧ Below w.heap.size w w') (h : KL P ops W R rest (a.put (some d) v)) (hw : Region.wanted o (yielded ops a.tmps) = true := by first | exact want_no rfl | kernel_rfl) (hd : o.dst = some d := by exact rfl) (hr : Rc P a o f xs := by exact ⟨fun _ => by kernel_rfl⟩) : KL P ops W R (o :: rest) a := kC M d f xs v hc h hw hd hr
structure Rm (P : Program) (a : Act) (o : Oper) (v : NV) (Z : Obj) : Prop where
 out : ∀ w, (execOp a.eval o).run P w = .ok (.value (v w.heap.size)) (w.alloc Z)
theorem ZM (M : Mem c L w) (d : Tmp) (v : NV) (Z : Obj) (h : ∀ g w2, Mem c (L ++ [⟨g, Z⟩]) w2 → PL P ops Q rest (a.put (some d) (v g)) w2) (hw : Region.wanted o (yielded ops a.tmps) = true := by first | exact want_no rfl | kernel_rfl) (hd : o.dst = some d := by exact rfl) (hr : Rm P a o v Z := by exact ⟨fun _ => by kernel_rfl⟩) : PL P ops Q (o :: rest) a w := pl_mk M hw (some d) hd v Z hr.out h
structure Rs (P : Program) (fn : Func) (a : Act) (v : Value) : Prop where
 out : ∀ w, (results fn a.tmps).run P w = .ok v w
theorem b1 {fn : Func} {w0 : World} {v : Value} (M : Mem ⟨w0, []⟩ L w) (hr : Rs P fn a v := by exact ⟨fun _ => by kernel_rfl⟩) (hd : a.defers = [] := by kernel_rfl) : bodyPost P fn (fun r w2 => r = .returned v ∧ Below w0.heap.size w0 w2) .ret a w := bodyPost_ret (hr.out w) hd ⟨rfl, below_grown M.old⟩
end
theorem exS2 {A : Type} {a : Act} {F : (Nat → Value) → A → Act} {R : (Nat → Value) → A → Prop} (y : A) (hR : R (slt a) y) (h : a = F (slt a) y := by kernel_rfl) : ∃ v y, a = F v y ∧ R v y := ⟨slt a, y, h, hR⟩
section
variable {P : Program} {ops : Array Oper} {rest : List Oper} {o : Oper} {a : Act} {w W : World} {c : Ctx} {L : List Blk} {Q : Exit → Act → World → Prop} {R : Act → Prop}
theorem wT (d : Tmp) {p : Prop} [Decidable p] (hp : p) (h : PL P ops Q rest (a.put (some d) (.bool true)) w) (hr : Rn P a o (.bool (decide p)) := by exact ⟨fun _ => by kernel_rfl⟩) (hw : Region.wanted o (yielded ops a.tmps) = true := by first | exact want_no rfl | kernel_rfl) (hd : o.dst = some d := by exact rfl) : PL P ops Q (o :: rest) a w := pH d _ (jT p hp hr) h hw hd
theorem wF (d : Tmp) {p : Prop} [Decidable p] (hp : ¬ p) (h : PL P ops Q rest (a.put (some d) (.bool false)) w) (hr : Rn P a o (.bool (decide p)) := by exact ⟨fun _ => by kernel_rfl⟩) (hw : Region.wanted o (yielded ops a.tmps) = true := by first | exact want_no rfl | kernel_rfl) (hd : o.dst = some d := by exact rfl) : PL P ops Q (o :: rest) a w := pH d _ (jF p hp hr) h hw hd
theorem wD (d : Tmp) {p : Prop} [Decidable p] (hp : p) (h : PL P ops Q rest (a.put (some d) (.bool false)) w) (hr : Rn P a o (.bool (!(decide p))) := by exact ⟨fun _ => by kernel_rfl⟩) (hw : Region.wanted o (yielded ops a.tmps) = true := by first | exact want_no rfl | kernel_rfl) (hd : o.dst = some d := by exact rfl) : PL P ops Q (o :: rest) a w := pH d _ (jD p hp hr) h hw hd
theorem wU (d : Tmp) {p : Prop} [Decidable p] (hp : ¬ p) (h : PL P ops Q rest (a.put (some d) (.bool true)) w) (hr : Rn P a o (.bool (!(decide p))) := by exact ⟨fun _ => by kernel_rfl⟩) (hw : Region.wanted o (yielded ops a.tmps) = true := by first | exact want_no rfl | kernel_rfl) (hd : o.dst = some d := by exact rfl) : PL P ops Q (o :: rest) a w := pH d _ (jU p hp hr) h hw hd
theorem pD (M : Mem c L w) (d : Tmp) (v : Value) {f : FuncId} {xs : Array Value} (hc : ∀ w, Mem c L w → Calls P f xs w fun e w' => e = .returned v ∧ Below w.heap.size w w') (h : ∀ w', Mem c L w' → PL P ops Q rest (a.put (some d) v) w') (hw : Region.wanted o (yielded ops a.tmps) = true := by first | exact want_no rfl | kernel_rfl) (hd : o.dst = some d := by exact rfl) (hr : Rc P a o f xs := by exact ⟨fun _ => by kernel_rfl⟩) : PL P ops Q (o :: rest) a w := pC M d f xs v hc h hw hd hr
theorem kD (M : Mem c L W) (d : Tmp) (v : Value) {f : FuncId} {xs : Array Value} (hc : ∀ w, Mem c L w → Calls P f xs w fun e w' => e = .returned v ∧ Below w.heap.size w w') (h : KL P ops W R rest (a.put (some d) v)) (hw : Region.wanted o (yielded ops a.tmps) = true := by first | exact want_no rfl | kernel_rfl) (hd : o.dst = some d := by exact rfl) (hr : Rc P a o f xs := by exact ⟨fun _ => by kernel_rfl⟩) : KL P ops W R (o :: rest) a := kC M d f xs v hc h hw hd hr
theorem ZY (M : Mem c L w) (d : Tmp) (i : Nat) (v : Value) (Z' : Obj) {f : FuncId} {xs : Array Value} {g : Nat} {Z : Obj} (hc : ∀ w, Mem c L w → Calls P f xs w fun e w' => e = .returned v ∧ Grw w w' [g] ∧ w'.heap[g]? = some Z') (h : ∀ w', Mem c (L.set i ⟨g, Z'⟩) w' → PL P ops Q rest (a.put (some d) v) w') (hi : L[i]? = some ⟨g, Z⟩ := by exact rfl) (hw : Region.wanted o (yielded ops a.tmps) = true := by first | exact want_no rfl | kernel_rfl) (hd : o.dst = some d := by exact rfl) (hr : Rc P a o f xs := by exact ⟨fun _ => by kernel_rfl⟩) : PL P ops Q (o :: rest) a w := pl_callp M hw (some d) hd f xs v i g Z Z' hi hr.out hc h
theorem zJ (d : Tmp) (v x : Value) (e : x = v) (h : PL P ops Q rest (a.put (some d) v) w) (hw : Region.wanted o (yielded ops a.tmps) = true := by first | exact want_no rfl | kernel_rfl) (hd : o.dst = some d := by exact rfl) (hr : Rn P a o x := by exact ⟨fun _ => by kernel_rfl⟩) : PL P ops Q (o :: rest) a w := pH d v (fun w => (hr.out w).trans (by rw [e])) h hw hd
theorem zW (d : Tmp) (x : Int) (h : PL P ops Q rest (a.put (some d) (.int .i64 x)) w) (e2 : -9223372036854775808 ≤ x := by omega) (e3 : x < 9223372036854775808 := by omega) (hr : Rn P a o (.int .i64 (IntKind.wrap .i64 x)) := by exact ⟨fun _ => by kernel_rfl⟩) (hw : Region.wanted o (yielded ops a.tmps) = true := by first | exact want_no rfl | kernel_rfl) (hd : o.dst = some d := by exact rfl) : PL P ops Q (o :: rest) a w := pH d _ (jV x rfl e2 e3 hr) h hw hd
theorem bX {fn : Func} {Φ : Ending → World → Prop} (v : Value) (hX : Φ (.returned v) w) (hr : Rs P fn a v := by exact ⟨fun _ => by kernel_rfl⟩) (hd : a.defers = [] := by kernel_rfl) : bodyPost P fn Φ .ret a w := bodyPost_ret (hr.out w) hd hX
structure Ep (a : Act) (p : Tmp) (v : Value) : Prop where
 out : a.tmps.getD p undef = v
theorem bc {fn : Func} {Φ : Ending → World → Prop} {p : Tmp} {ty : TypeId} (h : fn.results = #[.cell p ty]) (M : Mem c L w) (i n : Nat) (F : NV) (hX : Φ (.returned (.agg (av n F))) w) {g T : Nat} (hi : L[i]? = some ⟨g, .cells (av n F) T⟩ := by exact rfl) (hp : Ep a p (.pointer (some ⟨g, 0, none⟩)) := by exact ⟨by kernel_rfl⟩) (hu : (P.underlying ty).map TypeDesc.isRow = some true := by kernel_rfl) (hz : (P.info? ty).map (·.size) = some n := by kernel_rfl) (hd : a.defers = [] := by kernel_rfl) : bodyPost P fn Φ .ret a w := by
 obtain ⟨t, h1, h2⟩ := isRow_of hu
 exact bodyPost_ret (results_cell_row h _ _ g T (av n F) (0, 0) _ hp.out (M.get i hi) h1 (by revert h2; cases t <;> intro h2 <;> first | rfl | cases h2) (by rw [av_size]; exact hz)) hd hX
theorem bct {fn : Func} {Φ : Ending → World → Prop} {p s : Tmp} {ty : TypeId} (h : fn.results = #[.cell p ty, .tmp s]) (M : Mem c L w) (i n : Nat) (F : NV) (x : Value) (hX : Φ (.returned (.tuple #[.agg (av n F), x])) w) {g T : Nat} (hi : L[i]? = some ⟨g, .cells (av n F) T⟩ := by exact rfl) (hp : Ep a p (.pointer (some ⟨g, 0, none⟩)) := by exact ⟨by kernel_rfl⟩) (hs : Ep a s x := by exact ⟨by kernel_rfl⟩) (hu : (P.underlying ty).map TypeDesc.isRow = some true := by kernel_rfl) (hz : (P.info? ty).map (·.size) = some n := by kernel_rfl) (hd : a.defers = [] := by kernel_rfl) : bodyPost P fn Φ .ret a w := by
 obtain ⟨t, h1, h2⟩ := isRow_of hu
 exact bodyPost_ret (results_cell_tmp h _ _ g T (av n F) (0, 0) _ _ hp.out hs.out (M.get i hi) h1 (by revert h2; cases t <;> intro h2 <;> first | rfl | cases h2) (by rw [av_size]; exact hz)) hd hX
end
section
variable {P : Program} {ops : Array Oper} {o : Oper} {a : Act} {w : World} {Q : Exit → Act → World → Prop} {S : World → Prop} {n fuel : Nat} {listed : Array Bool}
theorem qH (M : S w) (i : Nat) (d : Tmp) (v : Value) (hrun : ∀ w, S w → (execOp a.eval o).run P w = .ok (.value v) w) (h : HL P ops Q S n fuel (listed.setIfInBounds i true) (a.put (some d) v) w) (hi : ops.toList[i]? = some o := by exact rfl) (hin : i < n := by decide) (hf : Region.free .any ops listed i = true := by kernel_rfl) (hr : (Region.ready .any ops listed).contains i = true := by kernel_rfl) (hw : Region.wanted o (yielded ops a.tmps) = true := by first | exact want_no rfl | kernel_rfl) (hd : o.dst = some d := by exact rfl) : HL P ops Q S n (fuel + 1) listed a w := hl_val M i hi hin hf hr hw (some d) hd v hrun h
theorem qC {c : Ctx} {Ls : List Blk} (M : Mem c Ls w) (i : Nat) (d : Tmp) (g off : Nat) (v : Value) (hc : ∀ w, Mem c Ls w → w.cell? ⟨g, off, none⟩ = some v) (h : HL P ops Q (Mem c Ls) n fuel (listed.setIfInBounds i true) (a.put (some d) v) w) {ty : TypeId} {x : Operand} (hi : ops.toList[i]? = some o := by exact rfl) (hin : i < n := by decide) (hf : Region.free .any ops listed i = true := by kernel_rfl) (hr : (Region.ready .any ops listed).contains i = true := by kernel_rfl) (hw : Region.wanted o (yielded ops a.tmps) = true := by first | exact want_no rfl | kernel_rfl) (hd : o.dst = some d := by exact rfl) (ho : o.op = .load ty x := by exact rfl) (hx : Ev a x (.pointer (some ⟨g, off, none⟩)) := by exact ⟨by kernel_rfl⟩) (ha : Na P ty := by exact ⟨fun _ => by kernel_rfl⟩) : HL P ops Q (Mem c Ls) n (fuel + 1) listed a w := hl_cell M i hi hin hf hr hw (some d) hd ty x ho g off hx.out v ha.out hc h
theorem qE {c : Ctx} {Ls : List Blk} (M : Mem c Ls w) (i : Nat) (d : Tmp) (k off : Nat) {g m T : Nat} {F : NV} (h : HL P ops Q (Mem c Ls) n fuel (listed.setIfInBounds i true) (a.put (some d) (F off)) w) {ty : TypeId} {x : Operand} (hi : ops.toList[i]? = some o := by exact rfl) (hin : i < n := by decide) (hf : Region.free .any ops listed i = true := by kernel_rfl) (hr : (Region.ready .any ops listed).contains i = true := by kernel_rfl) (hw : Region.wanted o (yielded ops a.tmps) = true := by first | exact want_no rfl | kernel_rfl) (hd : o.dst = some d := by exact rfl) (ho : o.op = .load ty x := by exact rfl) (hk : Ls[k]? = some ⟨g, .cells (av m F) T⟩ := by exact rfl) (ho2 : off < m := by first | omega | decide) (hx : Ev a x (.pointer (some ⟨g, off, none⟩)) := by exact ⟨by kernel_rfl⟩) (ha : Na P ty := by exact ⟨fun _ => by kernel_rfl⟩) : HL P ops Q (Mem c Ls) n (fuel + 1) listed a w := hl_cell M i hi hin hf hr hw (some d) hd ty x ho g off hx.out _ ha.out (fun _ M => M.cell k hk ho2 rfl) h
theorem qO (i : Nat) (h : PL P ops (Exit.then (fun a' w' => S w' ∧ HL P ops Q S n fuel (listed.setIfInBounds i true) a' w') Q) [o] a w) (hin : i < n := by decide) (hr : Region.ready .any ops listed = [i] := by kernel_rfl) (hi : ops.toList[i]? = some o := by exact rfl) : HL P ops Q S n (fuel + 1) listed a w := hl_one i hin hr hi h
theorem qZ (h : PL P ops (Exit.then (fun a' w' => Q .normal a' w') Q) [o] a w) (hr : Region.ready .any ops listed = [n] := by kernel_rfl) (hr2 : Region.ready .any ops (listed.setIfInBounds n true) = [] := by kernel_rfl) (hi : ops.toList[n]? = some o := by exact rfl) : HL P ops Q S n (fuel + 1) listed a w := hl_end hr hr2 hi h
theorem rgh {c : Ctx} {L : List Blk} {id : Nat} {l : List Oper} (M : Mem c L w) (Ls : List Blk) (n : Nat) (h : ∀ w', Mem c L w' → HL P l.toArray Q (Mem c Ls) n (n + 1) (Array.replicate (n + 1) false) a w') (hn : l.length = n + 1 := by exact rfl) (hm : P.follows .mixedOrders = true := by kernel_rfl) (hB : (Region.sinkB .any l.toArray n && Region.chainB .any l.toArray n && Region.noSelect l.toArray) = true := by kernel_rfl) (hQ : ∀ c a d v w, Q (.panic c) (Act.put a d v) w → Q (.panic c) a w := by exact fun _ _ d _ _ h => by cases d <;> exact h) : (Code.region id l.toArray true).wp P Q a w := rg_held M Ls n hn hm hB hQ h
end
open Go.RowKit
theorem inz84 : (Tryz.prog.info? 84).map (·.size) = some 1 := by kernel_rfl
theorem inz5 : (Tryz.prog.info? 5).map (·.size) = some 1 := by kernel_rfl
theorem inz131 : (Tryz.prog.info? 131).map (·.size) = some 16 := by kernel_rfl
theorem inz176 : (Tryz.prog.info? 176).map (·.size) = some 64 := by kernel_rfl
theorem inz247 : (Tryz.prog.info? 247).map (·.size) = some 2 := by kernel_rfl
theorem inz248 : (Tryz.prog.info? 248).map (·.size) = some 4 := by kernel_rfl
theorem inz9 : (Tryz.prog.info? 9).map (·.size) = some 1 := by kernel_rfl
theorem inz33 : (Tryz.prog.info? 33).map (·.size) = some 1 := by kernel_rfl
theorem inz44 : (Tryz.prog.info? 44).map (·.size) = some 1 := by kernel_rfl
theorem Mem.oldc {c : Ctx} {L : List Blk} {W : World} (M : Mem c L W) {g k : Nat} {v : Value} (hc : c.w.cell? ⟨g, k, none⟩ = some v) (hr : g ∉ c.r) : W.cell? ⟨g, k, none⟩ = some v := by
 have hlt : g < c.w.heap.size := by
  refine Classical.byContradiction fun hn => ?_
  have : c.w.heap[g]? = none := Array.getElem?_eq_none (by omega)
  simp [World.cell?, this] at hc
 rw [← hc]
 unfold World.cell?
 simp only
 rw [M.old.block g hlt hr]
theorem wrap64 {x : Int} (h0 : -9223372036854775808 ≤ x) (h1 : x < 9223372036854775808) : IntKind.wrap .i64 x = x := by
 simp [IntKind.wrap, IntKind.signed, IntKind.bits, go_sem]
 omega
theorem quo4 (j : Nat) (hj : j < 1000000) : IntKind.wrap .i64 ((j : Int).tdiv 4) = ((j / 4 : Nat) : Int) := by
 rw [Int.tdiv_eq_ediv_of_nonneg (by omega), wrap64 (by omega) (by omega)]
 omega
theorem rem4 (n : Nat) : Int.tmod (n : Int) 4 = ((n % 4 : Nat) : Int) := by
 rw [Int.tmod_eq_emod_of_nonneg (by omega)]
 omega
theorem run_shlV {P : Program} {a : Act} {o : Oper} (t rt : TypeId) (x y : Operand) (ho : o.op = .binOp .shl t x y rt) (k : Int) (ky : IntKind) (m : Nat) (hx : a.eval x = .int .u32 k) (hy : a.eval y = .int ky (m : Int)) (_hm : m ≤ 32) (w : World) :
  (execOp a.eval o).run P w = .ok (.value (.int .u32 (vl k m))) w := by
 unfold execOp vl
 simp [ho, hx, hy, eqGuard, binOp]
theorem run_ixP {P : Program} {a : Act} {o : Oper} (t : TypeId) (len : Nat) (elem : TypeId) (sz : Nat) (hu : P.underlying t = some (.array len elem)) (hs : (P.info? elem).map (·.size) = some sz) (hag : ∀ w, (isAgg elem).run P w = .ok true w) (x ix : Operand) (ho : o.op = .index t x ix) (F : NV) (n : Nat) (hx : a.eval x = .agg (av n F)) (k : IntKind) (i : Nat) (hi : a.eval ix = .int k (i : Int)) (hlt : i < len) (hn : i * sz + sz ≤ n) (w : World) :
  (execOp a.eval o).run P w = .ok (.value (.agg (av sz (fun j => F (i * sz + j))))) w := by
 have he : (av n F).extract (i * sz) (i * sz + sz) = av sz (fun j => F (i * sz + j)) := by
  apply Array.ext_getElem?
  intro j
  rw [Array.getElem?_extract]
  by_cases hj : j < sz
  ·rw [if_pos (by rw [av_size]; omega), av_get _ _ _ (by omega), av_get _ _ _ hj]
  ·rw [if_neg (by rw [av_size]; omega), Array.getElem?_eq_none (by rw [av_size]; omega)]
 cases hq : P.info? elem with
 | none => simp [hq] at hs
 | some u =>
  have hsz : u.size = sz := by simpa [hq] using hs
  unfold execOp
  simp [ho, hx, hi, Instr.index, asIntOf, run_underlying hu, sizeOf, typeInfo, hq, hsz, hlt, part, hag, he]
theorem pl_laid {P : Program} {ops : Array Oper} {rest : List Oper} {o : Oper} {a : Act} {w : World} {c : Ctx} {L : List Blk} {Q : Exit → Act → World → Prop} (M : Mem c L w) (hw : Region.wanted o (yielded ops a.tmps) = true) (d : Option Tmp) (hd : o.dst = d) (ty : TypeId) (x : Operand) (ho : o.op = .load ty x) (hx : a.eval x = .pointer (some ⟨2, 0, none⟩)) (t : TypeDesc) (hu : P.underlying ty = some t) (ht : t.isRow = true) (hz : (P.info? ty).map (·.size) = some 4)
  (h : PL P ops Q rest (a.put d (.agg (av 4 (wi TF)))) w) : PL P ops Q (o :: rest) a w := by
 refine pl_to hw d hd _ w ?_ h
 unfold execOp
 have hl := run_loadAt_mid (P := P) w 2 0 ty (av 4 (wi TF)).toList t (fun j v hv => by
  obtain ⟨hj, rfl⟩ := av_toList_get _ _ _ _ hv
  rw [Nat.zero_add]
  exact M.laid.t j hj) hu ht (by rw [hz]; simp [av_size])
 simp only [ho, hx, Sem.run_bind, hl, Result.andThen_ok, Sem.run_pure, Array.toArray_toList]
theorem run_ixL {P : Program} {a : Act} {o : Oper} (t elem : TypeId) (hu : P.underlying t = some (.slice elem)) (hs : (P.info? elem).map (·.size) = some 1) (x ix : Operand) (ho : o.op = .indexAddr t x ix) (g off len cap : Nat) (hx : a.eval x = .slice (some ⟨g, off, none⟩) len cap) (k : IntKind) (i : Nat) (hi : a.eval ix = .int k (i : Int)) (hlt : i < len) (w : World) :
  (execOp a.eval o).run P w = .ok (.value (.pointer (some ⟨g, off + i, none⟩))) w := by
 cases hq : P.info? elem with
 | none => simp [hq] at hs
 | some u =>
  have hsz : u.size = 1 := by simpa [hq] using hs
  unfold execOp
  simp [ho, hx, hi, Instr.indexAt, asIntOf, run_underlying hu, sizeOf, typeInfo, hq, hsz, add_at, hlt]
theorem quo64 (j : Nat) (hj : j < 1000000) : IntKind.wrap .i64 ((j : Int).tdiv 64) = ((j / 64 : Nat) : Int) := by
 rw [Int.tdiv_eq_ediv_of_nonneg (by omega), wrap64 (by omega) (by omega)]
 omega
theorem rem64 (n : Nat) : Int.tmod (n : Int) 64 = ((n % 64 : Nat) : Int) := by
 rw [Int.tmod_eq_emod_of_nonneg (by omega)]
 omega
theorem run_strl {P : Program} {a : Act} {o : Oper} (t : TypeId) (hu : P.underlying t = some .string) (x lo : Operand) (ho : o.op = .slice t x (some lo) none none) (s : Yb) (hx : a.eval x = .string s) (k : IntKind) (i : Nat) (hi : a.eval lo = .int k (i : Int)) (hle : i ≤ s.size) (v : Yb) (hv : s.extract i s.size = v) (w : World) :
  (execOp a.eval o).run P w = .ok (.value (.string v)) w := by
 subst hv
 unfold execOp
 simp [ho, hx, hi, run_sliceAt_string w t (.string s) (some (.int k i)) none none hu, run_slice_string_l w t s hu k i (by omega) (by omega)]
theorem run_strh {P : Program} {a : Act} {o : Oper} (t : TypeId) (hu : P.underlying t = some .string) (x hi : Operand) (ho : o.op = .slice t x none (some hi) none) (s : Yb) (hx : a.eval x = .string s) (k : IntKind) (i : Nat) (hh : a.eval hi = .int k (i : Int)) (hle : i ≤ s.size) (v : Yb) (hv : s.extract 0 i = v) (w : World) :
  (execOp a.eval o).run P w = .ok (.value (.string v)) w := by
 subst hv
 unfold execOp
 simp [ho, hx, hh, run_sliceAt_string w t (.string s) none (some (.int k i)) none hu, run_slice_string_h w t s hu k i (by omega) (by omega)]
theorem run_cat {P : Program} {a : Act} {o : Oper} (t rt : TypeId) (x y : Operand) (ho : o.op = .binOp .add t x y rt) (s u : Yb) (hx : a.eval x = .string s) (hy : a.eval y = .string u) (hb : s.size + u.size ≤ 9223372036854775807) (w : World) :
  (execOp a.eval o).run P w = .ok (.value (.string (s ++ u))) w := by
 have h := run_string_add_sum (P := P) (w := w) s u hb
 unfold execOp
 simp [ho, hx, hy, eqGuard, binOp, h]
theorem va_eq (x y : Int) : va x y = (x + y) % 4294967296 := by
 unfold va
 simp [IntKind.wrap, IntKind.signed, IntKind.bits]
theorem wrap32_nat (n : Nat) (h : n < 4294967296) : IntKind.wrap .u32 (n : Int) = (n : Int) := by
 simp [IntKind.wrap, IntKind.signed, IntKind.bits]
 omega
theorem run_ixS {P : Program} {a : Act} {o : Oper} (t : TypeId) (hu : P.underlying t = some .string) (x ix : Operand) (ho : o.op = .index t x ix) (s : Yb) (hx : a.eval x = .string s) (k : IntKind) (i : Nat) (hi : a.eval ix = .int k (i : Int)) (hlt : i < s.size) (w : World) :
  (execOp a.eval o).run P w = .ok (.value (.int .u8 (bt s i))) w := by
 have e : s[i]? = some s[i] := ByteArray.getElem?_lt' s i hlt
 have e2 : bt s i = (s[i].toNat : Int) := by
  unfold bt
  rw [Array.getElem?_eq_getElem hlt]
  rfl
 unfold execOp
 simp [ho, hx, hi, Instr.index, asIntOf, run_underlying hu, e, e2]
theorem run_shrV {P : Program} {a : Act} {o : Oper} (t rt : TypeId) (x y : Operand) (ho : o.op = .binOp .shr t x y rt) (k : Int) (ky : IntKind) (m : Nat) (hx : a.eval x = .int .u32 k) (hy : a.eval y = .int ky (m : Int)) (_hm : m ≤ 32) (w : World) :
  (execOp a.eval o).run P w = .ok (.value (.int .u32 (sr k m))) w := by
 have hp : (0 : Int) ≤ 2 ^ m := Int.le_of_lt (Int.pow_pos (by decide))
 unfold execOp sr
 rw [Int.fdiv_eq_ediv_of_nonneg k hp]
 simp [ho, hx, hy, eqGuard, binOp]
theorem run_strlh {P : Program} {a : Act} {o : Oper} (t : TypeId) (hu : P.underlying t = some .string) (x lo hi : Operand) (ho : o.op = .slice t x (some lo) (some hi) none) (s : Yb) (hx : a.eval x = .string s) (k k' : IntKind) (i j : Nat) (hl : a.eval lo = .int k (i : Int)) (hh : a.eval hi = .int k' (j : Int)) (hij : i ≤ j) (hle : j ≤ s.size) (w : World) :
  (execOp a.eval o).run P w = .ok (.value (.string (s.extract i j))) w := by
 unfold execOp
 simp [ho, hx, hl, hh, run_sliceAt_string w t (.string s) (some (.int k i)) (some (.int k' j)) none hu, run_slice_string w t s k k' i j hu (by omega) (by omega) (by omega)]
def xb (x y : Int) : Int := IntKind.wrap .u8 (BitVec.ofInt 8 x ^^^ BitVec.ofInt 8 y).toNat
theorem sb_av (n : Nat) (F : NI) (T : TypeId) : SB (.cells (av n (w8 F)) T) n (vs8 ((List.range n).map F)) := ⟨_, T, (0, 0), rfl, by simp [vs8], by rw [av_size]; exact Nat.le_refl _, fun i hi => by
 simp [vs8] at hi
 simp [vs8, av, w8, hi], fun i _ => by simp⟩
theorem run_ix0 {P : Program} {a : Act} {o : Oper} (t elem : TypeId) (hu : P.underlying t = some (.slice elem)) (hs : (P.info? elem).map (·.size) = some 1) (x ix : Operand) (ho : o.op = .indexAddr t x ix) (g len cap : Nat) (hx : a.eval x = .slice (some ⟨g, 0, none⟩) len cap) (k : IntKind) (i : Nat) (hi : a.eval ix = .int k (i : Int)) (hlt : i < len) (w : World) :
  (execOp a.eval o).run P w = .ok (.value (.pointer (some ⟨g, i, none⟩))) w := by
 have h := run_ixL (P := P) t elem hu hs x ix ho g 0 len cap hx k i hi hlt w
 rwa [Nat.zero_add] at h
theorem xb_nn (x y : Int) : 0 ≤ xb x y ∧ xb x y < 256 := by
 unfold xb
 simp [IntKind.wrap, IntKind.signed, IntKind.bits]
 omega
open Go.Shelf
def bF0 : Nat → Value := fun i => if i = 0 then .pointer none else .slice none 0 0
section
variable {P : Program} {ops : Array Oper} {rest : List Oper} {o : Oper} {a : Act} {w : World} {c : Ctx} {L : List Blk} {Q : Exit → Act → World → Prop} {K : Act → World → Prop} {J : Act → World → Prop}
theorem pl_newB (M : Mem c L w) (hw : Region.wanted o (yielded ops a.tmps) = true) (d : Option Tmp) (hd : o.dst = d) (Z : Obj) (hrun : ∀ w, (execOp a.eval o).run P w = .ok (.value (.pointer (some ⟨w.heap.size, 0, none⟩))) (w.alloc Z))
  (h : ∀ g w', (∀ b ∈ L, b.g < g) → Mem c (L ++ [⟨g, Z⟩]) w' → PL P ops Q rest (a.put d (.pointer (some ⟨g, 0, none⟩))) w') : PL P ops Q (o :: rest) a w :=
 pl_to hw d hd _ _ (hrun w) (h w.heap.size _ (fun _ hb => M.lt hb) (M.new _ _ (new_below w _) (heap_alloc_new w _) (Nat.le_refl _)))
theorem pl_callr (hw : Region.wanted o (yielded ops a.tmps) = true) (d : Option Tmp) (hd : o.dst = d) (f : FuncId) (args : Array Value) (v : Value) (R : World → Prop) (hrun : ∀ w, (execOp a.eval o).run P w = .ok (.enter f args) w)
  (hc : Calls P f args w fun e w' => e = .returned v ∧ R w') (h : ∀ w', R w' → PL P ops Q rest (a.put d v) w') : PL P ops Q (o :: rest) a w :=
 pl_callq hw d hd f args hrun (hc.mono fun _ w' ⟨he, hr⟩ => ⟨v, he, h w' hr⟩)
end
theorem below_laid {w u : World} (h : Below w.heap.size w u) (hL : Laid w) : Laid u := hL.of fun k hk => h.block k (Nat.lt_of_lt_of_le hk hL.lt)
open Go.RowKit
def rl (x : Int) (n : Nat) : Int := vo (vl x n) (sr x (32 - n))
def tr0 : Nat → Value := wi fun j => TF (0 * 2 + j)
def tr1 : Nat → Value := wi fun j => TF (1 * 2 + j)
def mA1 (v : NI) (i j : Nat) : Int := va (v i) (v j)
def mD1 (v : NI) (i j l : Nat) : Int := rl (vx (v l) (mA1 v i j)) 16
def mC1 (v : NI) (i j k l : Nat) : Int := va (v k) (mD1 v i j l)
def mB1 (v : NI) (i j k l : Nat) : Int := rl (vx (v j) (mC1 v i j k l)) 12
def mA2 (v : NI) (i j k l : Nat) : Int := va (mA1 v i j) (mB1 v i j k l)
def mD2 (v : NI) (i j k l : Nat) : Int := rl (vx (mD1 v i j l) (mA2 v i j k l)) 8
def mC2 (v : NI) (i j k l : Nat) : Int := va (mC1 v i j k l) (mD2 v i j k l)
def mB2 (v : NI) (i j k l : Nat) : Int := rl (vx (mB1 v i j k l) (mC2 v i j k l)) 7
def mxF (v : NI) (i j k l : Nat) : Nat → Int := upd (upd (upd (upd v i (mA2 v i j k l)) j (mB2 v i j k l)) k (mC2 v i j k l)) l (mD2 v i j k l)
theorem c_rl16 (x : Int) (w : World) (hL : Laid w)  : Cs 179 #[.int .u32 x, .int .i64 16] w (.int .u32 (rl x 16)) := by
 go_enter Tryz.func179, Tryz.ntmps179
 have M := Mem.start hL
 refine sq <| sq <| sq <| wp_ret ?_
 exact b1 M
theorem c_rl12 (x : Int) (w : World) (hL : Laid w)  : Cs 179 #[.int .u32 x, .int .i64 12] w (.int .u32 (rl x 12)) := by
 go_enter Tryz.func179, Tryz.ntmps179
 have M := Mem.start hL
 refine sq <| sq <| sq <| wp_ret ?_
 exact b1 M
theorem c_rl8 (x : Int) (w : World) (hL : Laid w)  : Cs 179 #[.int .u32 x, .int .i64 8] w (.int .u32 (rl x 8)) := by
 go_enter Tryz.func179, Tryz.ntmps179
 have M := Mem.start hL
 refine sq <| sq <| sq <| wp_ret ?_
 exact b1 M
theorem c_rl7 (x : Int) (w : World) (hL : Laid w)  : Cs 179 #[.int .u32 x, .int .i64 7] w (.int .u32 (rl x 7)) := by
 go_enter Tryz.func179, Tryz.ntmps179
 have M := Mem.start hL
 refine sq <| sq <| sq <| wp_ret ?_
 exact b1 M
theorem c_mix (v : NI) (p0 p1 p2 p3 : Nat) (h4 : p0 < 16) (h1 : p1 < 16) (h2 : p2 < 16) (h3 : p3 < 16) (g : Nat) (w : World) (hL : Laid w) (hg : w.heap[g]? = some (.cells (av 16 (w32 v)) 152)) (h0 : 2 < g) : Calls Tryz.prog 176 #[.pointer (some ⟨g, 0, none⟩), .int .i64 (p0 : Int), .int .i64 (p1 : Int), .int .i64 (p2 : Int), .int .i64 (p3 : Int)] w fun r w' => r = .returned (.tuple #[]) ∧ Grw w w' [g] ∧ w'.heap[g]? = some (.cells (av 16 (w32 (mxF v p0 p1 p2 p3))) 152) := by
 go_enter Tryz.func176, Tryz.ntmps176
 have M := Mem.startp hL hg h0
 refine wp_seq <| rgh M [⟨g, .cells (av 16 (w32 v)) 152⟩] 23 fun u1 M => qV M 0 16 (.pointer (some ⟨g, 0, none⟩)) <| qV M 1 17 (.int .i64 (p0 : Int)) <| qV M 2 18 (.pointer (some ⟨g, 0, none⟩)) <| qH M 3 19 (.pointer (some ⟨g, p0, none⟩)) (fun w _ => (run_ix1 152 16 84 Tryz.underlying152 inz84 _ _ rfl g (by kernel_rfl) .i64 (p0) (by kernel_rfl) (by omega)) w) <| qE M 4 20 0 p0 <| qV M 5 21 (.pointer (some ⟨g, 0, none⟩)) <| qV M 6 22 (.int .i64 (p1 : Int)) <| qV M 7 23 (.pointer (some ⟨g, 0, none⟩)) <| qH M 8 24 (.pointer (some ⟨g, p1, none⟩)) (fun w _ => (run_ix1 152 16 84 Tryz.underlying152 inz84 _ _ rfl g (by kernel_rfl) .i64 (p1) (by kernel_rfl) (by omega)) w) <| qE M 9 25 0 p1 <| qV M 10 26 (.pointer (some ⟨g, 0, none⟩)) <| qV M 11 27 (.int .i64 (p2 : Int)) <| qV M 12 28 (.pointer (some ⟨g, 0, none⟩)) <| qH M 13 29 (.pointer (some ⟨g, p2, none⟩)) (fun w _ => (run_ix1 152 16 84 Tryz.underlying152 inz84 _ _ rfl g (by kernel_rfl) .i64 (p2) (by kernel_rfl) (by omega)) w) ?_
 refine qE M 14 30 0 p2 <| qV M 15 31 (.pointer (some ⟨g, 0, none⟩)) <| qV M 16 32 (.int .i64 (p3 : Int)) <| qV M 17 33 (.pointer (some ⟨g, 0, none⟩)) <| qH M 18 34 (.pointer (some ⟨g, p3, none⟩)) (fun w _ => (run_ix1 152 16 84 Tryz.underlying152 inz84 _ _ rfl g (by kernel_rfl) .i64 (p3) (by kernel_rfl) (by omega)) w) <| qE M 19 35 0 p3 <| qV M 20 10 (.int .u32 (v p0)) <| qV M 21 11 (.int .u32 (v p1)) <| qV M 22 12 (.int .u32 (v p2)) <| qZ ?_
 refine rV 1 <| nT <| au_then <| wp_seq <| sR <| pl_laid M (want_no rfl) (some 36) rfl 248 _ rfl (by kernel_rfl) _ Tryz.underlying248 rfl inz248 <| rV 1 <| nT <| wp_block <| wp_loop_rounds 3 ?_
 refine rounds_go <| sq <| wp_seq <| cT <| wp_skip <| au_then <| wp_seq <| wp_block <| sR <| pH 39 (.agg (av 2 tr0)) (fun w => Eq.trans (run_ixP 248 2 247 2 Tryz.underlying248 inz247 (fun _ => by kernel_rfl) _ _ rfl (wi TF) 4 (by kernel_rfl) .i64 0 (by kernel_rfl) (by omega) (by omega) w) (by kernel_rfl)) <| pN M 15 (.cells (av 2 (wi (fun _ => 0))) 247) fun g1 u2 M => ZG M 1 2 tr0 fun u3 M => nT <| sq <| sR <| rV 4 ?_
 refine ZE M 47 1 0 <| pC M 48 179 #[.int .u32 (vx (v p3) (mA1 v p0 p1)), .int .i64 16] (.int .u32 (mD1 v p0 p1 p3)) (fun w M => c_rl16 _ w M.laid) fun u4 M => rV 1 <| nT <| sq <| rg_lit <| rV 4 <| ZE M 56 1 1 <| pC M 57 179 #[.int .u32 (vx (v p1) (mC1 v p0 p1 p2 p3)), .int .i64 12] (.int .u32 (mB1 v p0 p1 p2 p3)) (fun w M => c_rl12 _ w M.laid) fun u5 M => rV 1 <| pl_nil <| au_block <| au_then <| rg_lit <| rV 2 <| nT ?_
 refine rounds_go <| sq <| wp_seq <| cT <| wp_skip <| au_then <| wp_seq <| wp_block <| sR <| pH 39 (.agg (av 2 tr1)) (fun w => Eq.trans (run_ixP 248 2 247 2 Tryz.underlying248 inz247 (fun _ => by kernel_rfl) _ _ rfl (wi TF) 4 (by kernel_rfl) .i64 1 (by kernel_rfl) (by omega) (by omega) w) (by kernel_rfl)) <| pN M 15 (.cells (av 2 (wi (fun _ => 0))) 247) fun g2 u6 M => ZG M 2 2 tr1 fun u7 M => nT <| sq <| sR <| rV 4 ?_
 refine ZE M 47 2 0 <| pC M 48 179 #[.int .u32 (vx (mD1 v p0 p1 p3) (mA2 v p0 p1 p2 p3)), .int .i64 8] (.int .u32 (mD2 v p0 p1 p2 p3)) (fun w M => c_rl8 _ w M.laid) fun u8 M => rV 1 <| nT <| sq <| rg_lit <| rV 4 <| ZE M 56 2 1 <| pC M 57 179 #[.int .u32 (vx (mB1 v p0 p1 p2 p3) (mC2 v p0 p1 p2 p3)), .int .i64 7] (.int .u32 (mB2 v p0 p1 p2 p3)) (fun w M => c_rl7 _ w M.laid) fun u9 M => rV 1 <| pl_nil <| au_block <| au_then <| rg_lit <| rV 2 <| nT ?_
 refine rounds_go <| sq <| wp_seq <| cF <| wp_exit <| au_then_exit <| au_then_exit <| au_block_exit <| au_then <| rgh M [⟨g1, .cells (av 2 tr0) 247⟩, ⟨g2, .cells (av 2 tr1) 247⟩] 23 fun u10 M => ?_
 have qM := M.drop (.cons _ (.cons_cons _ (.cons_cons _ (.slnil))))
 refine qV qM 0 59 (.pointer (some ⟨g, 0, none⟩)) <| qV qM 1 60 (.int .i64 (p0 : Int)) <| qV qM 2 61 (.pointer (some ⟨g, 0, none⟩)) <| qV qM 3 62 (.int .i64 (p1 : Int)) <| qV qM 4 63 (.pointer (some ⟨g, 0, none⟩)) <| qV qM 5 64 (.int .i64 (p2 : Int)) <| qV qM 6 65 (.pointer (some ⟨g, 0, none⟩)) <| qV qM 7 66 (.int .i64 (p3 : Int)) <| qV qM 8 67 (.int .u32 (mA2 v p0 p1 p2 p3)) <| qV qM 9 68 (.int .u32 (mB2 v p0 p1 p2 p3)) <| qV qM 10 69 (.int .u32 (mC2 v p0 p1 p2 p3)) <| qV qM 11 70 (.int .u32 (mD2 v p0 p1 p2 p3)) <| qV qM 12 71 (.pointer (some ⟨g, 0, none⟩)) <| qH qM 13 72 (.pointer (some ⟨g, p0, none⟩)) (fun w _ => (run_ix1 152 16 84 Tryz.underlying152 inz84 _ _ rfl g (by kernel_rfl) .i64 (p0) (by kernel_rfl) (by omega)) w) <| qV qM 15 73 (.pointer (some ⟨g, 0, none⟩)) <| qV qM 18 75 (.pointer (some ⟨g, 0, none⟩)) ?_
 refine qV qM 21 77 (.pointer (some ⟨g, 0, none⟩)) <| qO 14 ?_
 refine ZP32 M 0 p0 (mA2 v p0 p1 p2 p3) fun u11 M => nT ?_
 refine ⟨(M.drop (.cons _ (.cons_cons _ (.cons_cons _ (.slnil))))), ?_⟩
 refine qH (M.drop (.cons _ (.cons_cons _ (.cons_cons _ (.slnil))))) 16 74 (.pointer (some ⟨g, p1, none⟩)) (fun w _ => (run_ix1 152 16 84 Tryz.underlying152 inz84 _ _ rfl g (by kernel_rfl) .i64 (p1) (by kernel_rfl) (by omega)) w) <| qO 17 ?_
 refine ZP32 M 0 p1 (mB2 v p0 p1 p2 p3) fun u12 M => nT ?_
 refine ⟨(M.drop (.cons _ (.cons_cons _ (.cons_cons _ (.slnil))))), ?_⟩
 refine qH (M.drop (.cons _ (.cons_cons _ (.cons_cons _ (.slnil))))) 19 76 (.pointer (some ⟨g, p2, none⟩)) (fun w _ => (run_ix1 152 16 84 Tryz.underlying152 inz84 _ _ rfl g (by kernel_rfl) .i64 (p2) (by kernel_rfl) (by omega)) w) <| qO 20 ?_
 refine ZP32 M 0 p2 (mC2 v p0 p1 p2 p3) fun u13 M => nT ?_
 refine ⟨(M.drop (.cons _ (.cons_cons _ (.cons_cons _ (.slnil))))), ?_⟩
 refine qH (M.drop (.cons _ (.cons_cons _ (.cons_cons _ (.slnil))))) 22 78 (.pointer (some ⟨g, p3, none⟩)) (fun w _ => (run_ix1 152 16 84 Tryz.underlying152 inz84 _ _ rfl g (by kernel_rfl) .i64 (p3) (by kernel_rfl) (by omega)) w) <| qZ ?_
 refine ZP32 M 0 p3 (mD2 v p0 p1 p2 p3) fun u14 M => nT ?_
 exact bodyPost_end (v := .tuple #[]) (results_none Tryz.results176 _ _) (by kernel_rfl) ⟨rfl, M.old, M.get 0 rfl⟩
def rn1 (v : NI) : Nat → Int := mxF v 0 4 8 12
def rn2 (v : NI) : Nat → Int := mxF (rn1 v) 1 5 9 13
def rn3 (v : NI) : Nat → Int := mxF (rn2 v) 2 6 10 14
def rn4 (v : NI) : Nat → Int := mxF (rn3 v) 3 7 11 15
def rn5 (v : NI) : Nat → Int := mxF (rn4 v) 0 5 10 15
def rn6 (v : NI) : Nat → Int := mxF (rn5 v) 1 6 11 12
def rn7 (v : NI) : Nat → Int := mxF (rn6 v) 2 7 8 13
def rn8 (v : NI) : Nat → Int := mxF (rn7 v) 3 4 9 14
def rd (v : NI) : Nat → (Nat → Int)
 | 0 => v
 | j + 1 => rn8 (rd v j)
theorem c_round (v : NI) (g : Nat) (w : World) (hL : Laid w) (hg : w.heap[g]? = some (.cells (av 16 (w32 v)) 152)) (h0 : 2 < g) : Calls Tryz.prog 160 #[.pointer (some ⟨g, 0, none⟩)] w fun r w' => r = .returned (.tuple #[]) ∧ Grw w w' [g] ∧ w'.heap[g]? = some (.cells (av 16 (w32 (rn8 v))) 152) := by
 go_enter Tryz.func160, Tryz.ntmps160
 have M := Mem.startp hL hg h0
 refine sR <| rV 1 <| ZY M 3 0 (.tuple #[]) (.cells (av 16 (w32 (rn1 v))) 152) (fun w M => c_mix v 0 4 8 12 (by decide) (by decide) (by decide) (by decide) g w M.laid (M.get 0 rfl) (M.ne0 0 rfl)) fun u1 M => nT <| sR <| rV 1 <| ZY M 5 0 (.tuple #[]) (.cells (av 16 (w32 (rn2 v))) 152) (fun w M => c_mix (rn1 v) 1 5 9 13 (by decide) (by decide) (by decide) (by decide) g w M.laid (M.get 0 rfl) (M.ne0 0 rfl)) fun u2 M => nT <| sR <| rV 1 <| ZY M 7 0 (.tuple #[]) (.cells (av 16 (w32 (rn3 v))) 152) (fun w M => c_mix (rn2 v) 2 6 10 14 (by decide) (by decide) (by decide) (by decide) g w M.laid (M.get 0 rfl) (M.ne0 0 rfl)) fun u3 M => nT <| sR <| rV 1 <| ZY M 9 0 (.tuple #[]) (.cells (av 16 (w32 (rn4 v))) 152) (fun w M => c_mix (rn3 v) 3 7 11 15 (by decide) (by decide) (by decide) (by decide) g w M.laid (M.get 0 rfl) (M.ne0 0 rfl)) fun u4 M => nT ?_
 refine sR <| rV 1 <| ZY M 11 0 (.tuple #[]) (.cells (av 16 (w32 (rn5 v))) 152) (fun w M => c_mix (rn4 v) 0 5 10 15 (by decide) (by decide) (by decide) (by decide) g w M.laid (M.get 0 rfl) (M.ne0 0 rfl)) fun u5 M => nT <| sR <| rV 1 <| ZY M 13 0 (.tuple #[]) (.cells (av 16 (w32 (rn6 v))) 152) (fun w M => c_mix (rn5 v) 1 6 11 12 (by decide) (by decide) (by decide) (by decide) g w M.laid (M.get 0 rfl) (M.ne0 0 rfl)) fun u6 M => nT <| sR <| rV 1 <| ZY M 15 0 (.tuple #[]) (.cells (av 16 (w32 (rn7 v))) 152) (fun w M => c_mix (rn6 v) 2 7 8 13 (by decide) (by decide) (by decide) (by decide) g w M.laid (M.get 0 rfl) (M.ne0 0 rfl)) fun u7 M => nT <| rg_lit <| rV 1 <| ZY M 17 0 (.tuple #[]) (.cells (av 16 (w32 (rn8 v))) 152) (fun w M => c_mix (rn7 v) 3 4 9 14 (by decide) (by decide) (by decide) (by decide) g w M.laid (M.get 0 rfl) (M.ne0 0 rfl)) fun u8 M => pl_nil ?_
 exact bodyPost_end (v := .tuple #[]) (results_none Tryz.results160 _ _) (by kernel_rfl) ⟨rfl, M.old, M.get 0 rfl⟩
def pw (v : NI) (p : Nat) (b : NI) : Nat → (Nat → Int)
 | 0 => v
 | j + 1 => upd (pw v p b j) (p + j / 4) (vo (pw v p b j (p + j / 4)) (vl (cv .u32 (b j)) (j % 4 * 8)))
theorem c_put (v : NI) (p : Nat) (s : Yb) (hp : p + (s.size + 3) / 4 ≤ 16) (g : Nat) (w : World) (hL : Laid w) (hg : w.heap[g]? = some (.cells (av 16 (w32 v)) 152)) (h0 : 2 < g) : Calls Tryz.prog 130 #[.pointer (some ⟨g, 0, none⟩), .int .i64 (p : Int), .string s] w fun r w' => r = .returned (.tuple #[]) ∧ Grw w w' [g] ∧ w'.heap[g]? = some (.cells (av 16 (w32 (pw v p (bt s) s.size))) 152) := by
 go_enter Tryz.func130, Tryz.ntmps130
 have M := Mem.startp hL hg h0
 refine sq <| wp_block ?_
 refine au_loop (fun j a w' => ∃ v1 : NV, a = (fm ([.pointer (some ⟨g, 0, none⟩), .int .i64 (p : Int), .string s] ++ vr v1 3 5 ++ [.int .i64 (s.size : Int), .int .i64 (j : Int)] ++ vr v1 10 22)) ∧ Mem ⟨w, [g]⟩ [⟨g, .cells (av 16 (w32 (pw v p (bt s) j))) 152⟩] w') s.size (exS M) ?_ ?_
 ·intro j a u0 hj hI
  obtain ⟨v1, rfl, M⟩ := hI
  refine sR <| ZT 10 ((j : Int) < (s.size : Int)) <| nT <| wp_seq <| cT <| wp_skip <| au_then <| wp_seq <| wp_block <| sq <| rg_tail M 19 (by kernel_rfl) (by kernel_rfl) ?_
  simp only [List.take_succ_cons, List.take_zero]
  refine kR 3 <| eQ 15 .i64 (IntKind.wrap .i64 ((j : Int).tdiv 4)) (quo4 j (by omega)) <| eI 16 ((p : Int) + ((j / 4 : Nat) : Int)) ((p + j / 4 : Nat) : Int) <| kR 1 <| eX 18 .i64 g ((p + j / 4 : Nat)) 16 <| eE M 19 0 ((p + j / 4 : Nat)) <| kR 2 <| kH 22 (.int .u8 (bt s j)) (run_ixS 9 Tryz.underlying9 _ _ rfl s (by kernel_rfl) .i64 j (by kernel_rfl) hj) <| kR 2 <| eQ 25 .i64 (Int.tmod (j : Int) 4) (rem4 j) <| eI 26 (((j % 4 : Nat) : Int) * 8) ((j % 4 * 8 : Nat) : Int) <| kH 27 (.int .u32 (vl (cv .u32 (bt s j)) (j % 4 * 8))) (run_shlV 84 3 _ _ rfl _ .i64 (j % 4 * 8) (by kernel_rfl) (by kernel_rfl) (by omega)) <| kR 2 <| eX 30 .i64 g ((p + j / 4 : Nat)) 16 <| kl_nil fun u1 M => ZP32 M 0 ((p + j / 4 : Nat)) (vo ((pw v p (bt s) j) ((p + j / 4 : Nat))) (vl (cv .u32 (bt s j)) (j % 4 * 8))) fun u2 M => ?_
  refine pl_nil <| au_block <| au_then <| rg_lit <| ZI 31 ((j : Int) + 1) ((j + 1 : Nat) : Int) <| rV 1 <| nT ?_
  exact exS M
 ·intro a u0 hI
  obtain ⟨v1, rfl, M⟩ := hI
  refine sR <| ZF 10 ((s.size : Int) < (s.size : Int)) <| nT <| wp_seq <| cF <| wp_exit <| au_then_exit <| au_then_exit <| au_block_exit ?_
  exact bodyPost_end (v := .tuple #[]) (results_none Tryz.results130 _ _) (by kernel_rfl) ⟨rfl, M.old, M.get 0 rfl⟩
def strK : ByteArray := ⟨#[101, 120, 112, 97, 110, 100, 32, 51, 50, 45, 98, 121, 116, 101, 32, 107]⟩
def f1 : Nat → Int := pw (fun _ => 0) 0 (bt strK) 16
def f2 (key : Yb) : Nat → Int := pw f1 4 (bt key) key.size
def fw (key nonce : Yb) (n : Int) : Nat → Int := pw (upd (f2 key) 12 n) 13 (bt nonce) nonce.size
theorem c_first (key nonce : Yb) (n : Int) (hk : key.size = 32) (hn : nonce.size = 12) (w : World) (hL : Laid w)  : Cs 102 #[.string key, .string nonce, .int .u32 n] w (.agg (av 16 (w32 (fw key nonce n)))) := by
 go_enter Tryz.func102, Tryz.ntmps102
 have M := Mem.start hL
 refine sR <| pN M 6 (.cells (av 16 (w32 (fun _ => 0))) 152) fun g1 u1 M => nT <| sR <| pN M 7 (.cells (av 16 (w32 (fun _ => 0))) 152) fun g2 u2 M => nT <| sR <| ZY M 8 1 (.tuple #[]) (.cells (av 16 (w32 f1)) 152) (fun w M => c_put (fun _ => 0) 0 strK (by decide) g2 w M.laid (M.get 1 rfl) (M.ne0 1 rfl)) fun u3 M => nT <| sR <| rV 1 <| ZY M 10 1 (.tuple #[]) (.cells (av 16 (w32 (f2 key))) 152) (fun w M => c_put f1 4 key (by omega) g2 w M.laid (M.get 1 rfl) (M.ne0 1 rfl)) fun u4 M => nT <| sR <| rV 2 <| ZP32 M 1 12 n fun u5 M => ?_
 refine nT <| sR <| rV 1 <| ZY M 14 1 (.tuple #[]) (.cells (av 16 (w32 (fw key nonce n))) 152) (fun w M => c_put (upd (f2 key) 12 n) 13 nonce (by omega) g2 w M.laid (M.get 1 rfl) (M.ne0 1 rfl)) fun u6 M => nT <| sR <| pA M 15 1 16 (w32 (fw key nonce n)) <| ZG M 0 16 (w32 (fw key nonce n)) fun u7 M => nT <| wp_ret ?_
 exact bc Tryz.results102 M 0 16 (w32 (fw key nonce n)) ⟨rfl, below_grown M.old⟩
def bk (f v : NI) : Nat → (Nat → Int)
 | 0 => fun _ => 0
 | j + 1 => upd (bk f v j) j (cv .u8 (sr (va (v (j / 4)) (f (j / 4))) (j % 4 * 8)))
def bl (f : NI) (i : Nat) : Int := cv .u8 (sr (va (rd f 10 (i / 4)) (f (i / 4))) (i % 4 * 8))
theorem bk_at (f v : NI) : ∀ n, ∀ i, i < n → bk f v n i = cv .u8 (sr (va (v (i / 4)) (f (i / 4))) (i % 4 * 8))
 | 0, i, h => absurd h (by omega)
 | n + 1, i, h => by
  unfold bk upd
  by_cases e : i = n
  ·rw [if_pos e, e]
  ·rw [if_neg e, bk_at f v n i (by omega)]
theorem bk_av (f : NI) : av 64 (w8 (bk f (rd f 10) 64)) = av 64 (w8 (bl f)) := av_congr fun i hi => by
 unfold w8 bl
 rw [bk_at _ _ 64 i hi]
theorem c_block (f : NI) (w : World) (hL : Laid w)  : Cs 131 #[.agg (av 16 (w32 f))] w (.agg (av 64 (w8 (bl f)))) := by
 go_enter Tryz.func131, Tryz.ntmps131
 have M := Mem.start hL
 refine sR <| pN M 1 (.cells (av 16 (w32 f)) 152) fun g1 u1 M => pN M 2 (.cells (av 64 (w8 (fun _ => 0))) 176) fun g2 u2 M => nT <| sR <| pA M 6 0 16 (w32 f) <| pN M 3 (.cells (av 16 (w32 (fun _ => 0))) 152) fun g3 u3 M => ZG M 2 16 (w32 f) fun u4 M => nT <| wp_seq <| sq <| wp_block ?_
 refine au_loop (fun j a w' => ∃ v1 : NV, a = (fm ([.agg (av 16 (w32 f)), .pointer (some ⟨g1, 0, none⟩), .pointer (some ⟨g2, 0, none⟩), .pointer (some ⟨g3, 0, none⟩)] ++ vr v1 4 3 ++ [.int .i64 (j : Int)] ++ vr v1 8 24)) ∧ Mem ⟨w, []⟩ [⟨g1, .cells (av 16 (w32 f)) 152⟩, ⟨g2, .cells (av 64 (w8 (fun _ => 0))) 176⟩, ⟨g3, .cells (av 16 (w32 (rd f j))) 152⟩] w') 10 (exS M) ?_ ?_
 ·intro j a u0 hj hI
  obtain ⟨v1, rfl, M⟩ := hI
  refine sR <| ZT 8 ((j : Int) < 10) <| nT <| wp_seq <| cT <| wp_skip <| au_then <| wp_seq <| wp_block <| rg_lit <| ZY M 9 2 (.tuple #[]) (.cells (av 16 (w32 (rd f (j + 1)))) 152) (fun w M => c_round (rd f j) g3 w M.laid (M.get 2 rfl) (M.ne0 2 rfl)) fun u5 M => pl_nil <| au_block <| au_then <| rg_lit <| ZI 10 ((j : Int) + 1) ((j + 1 : Nat) : Int) ?_
  refine rV 1 <| nT ?_
  exact exS M
 ·intro a u0 hI
  obtain ⟨v1, rfl, M⟩ := hI
  refine sR <| ZF 8 (10 < 10) <| nT <| wp_seq <| cF <| wp_exit <| au_then_exit <| au_then_exit <| au_block_exit <| au_then <| sR <| pN M 4 (.cells (av 64 (w8 (fun _ => 0))) 176) fun g4 u6 M => nT <| wp_seq <| sq <| wp_block ?_
  refine au_loop (fun j a w' => ∃ v2 : NV, a = (fm ([.agg (av 16 (w32 f)), .pointer (some ⟨g1, 0, none⟩), .pointer (some ⟨g2, 0, none⟩), .pointer (some ⟨g3, 0, none⟩), .pointer (some ⟨g4, 0, none⟩)] ++ vr v2 5 2 ++ [.int .i64 (10 : Int)] ++ vr v2 8 3 ++ [.int .i64 (j : Int)] ++ vr v2 12 20)) ∧ Mem ⟨w, []⟩ [⟨g1, .cells (av 16 (w32 f)) 152⟩, ⟨g2, .cells (av 64 (w8 (fun _ => 0))) 176⟩, ⟨g3, .cells (av 16 (w32 (rd f 10))) 152⟩, ⟨g4, .cells (av 64 (w8 (bk f (rd f 10) j))) 176⟩] w') 64 (exS M) ?_ ?_
  ·intro j a u0 hj hI
   obtain ⟨v2, rfl, M⟩ := hI
   refine sR <| ZT 12 ((j : Int) < 64) <| nT <| wp_seq <| cT <| wp_skip <| au_then <| wp_seq <| wp_block <| sq <| rg_tail M 16 (by kernel_rfl) (by kernel_rfl) ?_
   simp only [List.take_succ_cons, List.take_zero]
   refine kR 2 <| eQ 16 .i64 (IntKind.wrap .i64 ((j : Int).tdiv 4)) (quo4 j (by omega)) <| eX 17 .i64 g3 ((j / 4 : Nat)) 16 <| eE M 18 2 ((j / 4 : Nat)) <| kR 1 <| eQ 20 .i64 (IntKind.wrap .i64 ((j : Int).tdiv 4)) (quo4 j (by omega)) <| eX 21 .i64 g1 ((j / 4 : Nat)) 16 <| eE M 22 0 ((j / 4 : Nat)) <| kR 2 <| eQ 25 .i64 (Int.tmod (j : Int) 4) (rem4 j) <| eI 26 (((j % 4 : Nat) : Int) * 8) ((j % 4 * 8 : Nat) : Int) <| kH 27 (.int .u32 (sr (va (rd f 10 (j / 4)) (f (j / 4))) (j % 4 * 8))) (run_shrV 84 3 _ _ rfl _ .i64 (j % 4 * 8) (by kernel_rfl) (by kernel_rfl) (by omega)) <| kR 1 <| eX 29 .i64 g4 (j) 64 <| kl_nil fun u7 M => ZP8 M 3 j (cv .u8 (sr (va (rd f 10 (j / 4)) (f (j / 4))) (j % 4 * 8))) fun u8 M => ?_
   refine pl_nil <| au_block <| au_then <| rg_lit <| ZI 30 ((j : Int) + 1) ((j + 1 : Nat) : Int) <| rV 1 <| nT ?_
   exact exS M
  ·intro a u0 hI
   obtain ⟨v2, rfl, M⟩ := hI
   refine sR <| ZF 12 (64 < 64) <| nT <| wp_seq <| cF <| wp_exit <| au_then_exit <| au_then_exit <| au_block_exit <| au_then <| sR <| pA M 31 3 64 (w8 (bk f (rd f 10) 64)) <| ZG M 1 64 (w8 (bk f (rd f 10) 64)) fun u9 M => nT <| wp_ret ?_
   refine bodyPost_ret (v := .agg (av 64 (w8 (bl f)))) (Eq.trans (b := .ok (.agg (av 64 (w8 (bk f (rd f 10) 64)))) _) (results_cell_row Tryz.results131 _ _ g2 176 (av 64 (w8 (bk f (rd f 10) 64))) (0, 0) _ (by kernel_rfl) (M.get 1 rfl) Tryz.underlying176 rfl (by rw [av_size]; exact inz176)) (by rw [bk_av])) (by kernel_rfl) ⟨rfl, below_grown M.old⟩
open Go.Shelf Go.RowKit
def repRen : Go.Shelf.Ren := ⟨fun | 165 => 126 | 167 => 128 | 169 => 129 | 240 => 157 | 241 => 158 | 276 => 174 | 277 => 175 | n => n, fun | 0 => 0 | 3 => 3 | 4 => 4 | 5 => 5 | 9 => 9 | 20 => 20 | 37 => 44 | 70 => 180 | 72 => 182 | 75 => 188 | 80 => 113 | 127 => 218 | 164 => 240 | n => n, fun | n => n⟩
theorem lays165 : Go.Proofs.Lays.n165 Tryz.prog repRen := {
 mixed := by kernel_rfl
 f165 := Tryz.func126.trans (congrArg some (by kernel_rfl))
 f240 := Tryz.func157.trans (congrArg some (by kernel_rfl))
 f241 := Tryz.func158.trans (congrArg some (by kernel_rfl))
 f276 := Tryz.func174.trans (congrArg some (by kernel_rfl))
 f277 := Tryz.func175.trans (congrArg some (by kernel_rfl))
 t0 := Tryz.underlying0
 a0 := Tryz.isAgg0
 z0 := Tryz.sizeOf0
 v0 := Tryz.zeroValue0
 t3 := Tryz.underlying3
 a3 := Tryz.isAgg3
 z3 := Tryz.sizeOf3
 v3 := Tryz.zeroValue3
 t4 := Tryz.underlying4
 a4 := Tryz.isAgg4
 z4 := Tryz.sizeOf4
 v4 := Tryz.zeroValue4
 t9 := Tryz.underlying9
 a9 := Tryz.isAgg9
 z9 := Tryz.sizeOf9
 v9 := Tryz.zeroValue9
 t20 := Tryz.underlying20
 a20 := Tryz.isAgg20
 z20 := Tryz.sizeOf20
 v20 := Tryz.zeroValue20
 t37 := Tryz.underlying44
 a37 := Tryz.isAgg44
 z37 := Tryz.sizeOf44
 v37 := Tryz.zeroValue44
 t70 := Tryz.underlying180
 a70 := Tryz.isAgg180
 z70 := Tryz.sizeOf180
 v70 := Tryz.zeroValue180
 t72 := Tryz.underlying182
 a72 := Tryz.isAgg182
 z72 := Tryz.sizeOf182
 v72 := Tryz.zeroValue182
 t164 := Tryz.underlying240
 a164 := Tryz.isAgg240
 z164 := Tryz.sizeOf240
 v164 := Tryz.zeroValue240 }
theorem lays167 : Go.Proofs.Lays.n167 Tryz.prog repRen := {
 mixed := by kernel_rfl
 f167 := Tryz.func128.trans (congrArg some (by kernel_rfl))
 f240 := Tryz.func157.trans (congrArg some (by kernel_rfl))
 f276 := Tryz.func174.trans (congrArg some (by kernel_rfl))
 t0 := Tryz.underlying0
 a0 := Tryz.isAgg0
 z0 := Tryz.sizeOf0
 v0 := Tryz.zeroValue0
 t4 := Tryz.underlying4
 a4 := Tryz.isAgg4
 z4 := Tryz.sizeOf4
 v4 := Tryz.zeroValue4
 t5 := Tryz.underlying5
 a5 := Tryz.isAgg5
 z5 := Tryz.sizeOf5
 v5 := Tryz.zeroValue5
 t9 := Tryz.underlying9
 a9 := Tryz.isAgg9
 z9 := Tryz.sizeOf9
 v9 := Tryz.zeroValue9
 t20 := Tryz.underlying20
 a20 := Tryz.isAgg20
 z20 := Tryz.sizeOf20
 v20 := Tryz.zeroValue20
 t37 := Tryz.underlying44
 a37 := Tryz.isAgg44
 z37 := Tryz.sizeOf44
 v37 := Tryz.zeroValue44
 t70 := Tryz.underlying180
 a70 := Tryz.isAgg180
 z70 := Tryz.sizeOf180
 v70 := Tryz.zeroValue180
 t72 := Tryz.underlying182
 a72 := Tryz.isAgg182
 z72 := Tryz.sizeOf182
 v72 := Tryz.zeroValue182
 t75 := Tryz.underlying188
 a75 := Tryz.isAgg188
 z75 := Tryz.sizeOf188
 v75 := Tryz.zeroValue188
 t164 := Tryz.underlying240
 a164 := Tryz.isAgg240
 z164 := Tryz.sizeOf240
 v164 := Tryz.zeroValue240 }
theorem lays169 : Go.Proofs.Lays.n169 Tryz.prog repRen := {
 mixed := by kernel_rfl
 f169 := Tryz.func129.trans (congrArg some (by kernel_rfl))
 t0 := Tryz.underlying0
 a0 := Tryz.isAgg0
 z0 := Tryz.sizeOf0
 v0 := Tryz.zeroValue0
 t3 := Tryz.underlying3
 a3 := Tryz.isAgg3
 z3 := Tryz.sizeOf3
 v3 := Tryz.zeroValue3
 t9 := Tryz.underlying9
 a9 := Tryz.isAgg9
 z9 := Tryz.sizeOf9
 v9 := Tryz.zeroValue9
 t37 := Tryz.underlying44
 a37 := Tryz.isAgg44
 z37 := Tryz.sizeOf44
 v37 := Tryz.zeroValue44
 t70 := Tryz.underlying180
 a70 := Tryz.isAgg180
 z70 := Tryz.sizeOf180
 v70 := Tryz.zeroValue180
 t72 := Tryz.underlying182
 a72 := Tryz.isAgg182
 z72 := Tryz.sizeOf182
 v72 := Tryz.zeroValue182
 t127 := Tryz.underlying218
 a127 := Tryz.isAgg218
 z127 := Tryz.sizeOf218
 v127 := Tryz.zeroValue218 }
theorem repExtra : Builder.Extra Tryz.prog repRen := {
 sizeBuilder := by kernel_rfl
 liesBuilder := by kernel_rfl
 t5 := Tryz.underlying5
 a5 := Tryz.isAgg5
 z5 := Tryz.sizeOf5
 v5 := Tryz.zeroValue5
 infoByte := by kernel_rfl
 cellsByte := by kernel_rfl
 sizeByte := by kernel_rfl
 neB5 := by decide }
open Go.RowKit
open Go.Shelf
def FW (ro : Option Nat) : Fence := { Fence.wide with round := ro }
theorem fw_calls {ro : Option Nat} {n : Nat} {P : Program} {f : FuncId} {args : Array Value} {w : World} {R : Ending → World → Prop} (h : Calls P f args w R) : CallsIn (FW ro) n P f args w R := (callsIn_wide (n := n)).2 h
theorem fw_rows {ro : Option Nat} {n : Nat} {P : Program} {row : String} {args : Array Value} {w : World} {R : Value → World → Prop} (h : Rows P row args w R) : RowsIn (FW ro) n P row args w R :=
 fun c cs _ => let ⟨v, w', r, s⟩ := h c cs; ⟨v, w', r, stepsIn_wide.2 s⟩
section
variable {P : Program} {ops : Array Oper} {rest : List Oper} {o : Oper} {a : Act} {w : World} {Q : Exit → Act → World → Prop} {K : Act → World → Prop} {n : Nat} {ro : Option Nat}
theorem op_in (hd : ∀ c, o.op ≠ .defer c) (h : o.wp P a w K Q) : o.wpIn (FW ro) n P a w K Q := by
 refine ⟨fun _ _ => trivial, ?_⟩
 rw [Oper.semAt_eq _ _ _ hd]
 unfold Oper.wp at h
 generalize (execOp a.eval o).run P w = r at h
 cases r with
 | ok x w' =>
  cases x <;> simp only [Oper.upon] at h <;> simp only [Oper.uponIn]
  all_goals first
   | exact h
   | exact h.elim
   | exact ⟨fun e => by simp [FW, Fence.wide] at e, fw_calls h⟩
   | exact ⟨fun e => by simp [FW, Fence.wide] at e, fw_rows h⟩
 | halt x w' => cases x <;> simp only [Oper.upon] at h <;> simp only [Oper.uponIn] <;> exact h
def ndB (o : Oper) : Bool := match o.op with
 | .defer _ => false
 | _ => true
theorem nd_of (h : ndB o = true) : ∀ c, o.op ≠ .defer c := fun c e => by simp [ndB, e] at h
theorem list_in : ∀ (l : List Oper) (a : Act) (w : World), l.all ndB = true → (∀ a w, ¬ Q .outgrown a w) → wpList P ops Q l a w → wpListIn (FW ro) n P ops Q l a w
 | [], _, _, _, _, h => h
 | o :: l, a, w, hd, hQ, h => by
  simp only [List.all_cons, Bool.and_eq_true] at hd
  unfold wpList at h
  unfold wpListIn
  split
  ·rename_i hw
   rw [if_pos hw] at h
   rcases h with h | ⟨_, a', w', h⟩
   ·exact Oper.wpIn_mono (fun a w h => list_in l a w hd.2 hQ h) (op_in (nd_of hd.1) h)
   ·exact absurd h (hQ a' w')
  ·rename_i hw
   rw [if_neg hw] at h
   exact ⟨fun _ _ => trivial, list_in l _ _ hd.2 hQ h⟩
theorem list_in_then : ∀ (l : List Oper) (a : Act) (w : World), l.all ndB = true → (∀ a w, ¬ Q .outgrown a w) → wpList P ops (Exit.then (wpListIn (FW ro) n P ops Q rest) Q) l a w → wpListIn (FW ro) n P ops Q (l ++ rest) a w
 | [], _, _, _, _, h => h
 | o :: l, a, w, hd, hQ, h => by
  simp only [List.all_cons, Bool.and_eq_true] at hd
  unfold wpList at h
  rw [List.cons_append]
  unfold wpListIn
  split
  ·rename_i hw
   rw [if_pos hw] at h
   rcases h with h | ⟨_, a', w', h⟩
   ·exact Oper.wpIn_mono (fun a w h => list_in_then l a w hd.2 hQ h) (op_in (nd_of hd.1) (wp_unthen h))
   ·exact absurd h (hQ a' w')
  ·rename_i hw
   rw [if_neg hw] at h
   exact ⟨fun _ _ => trivial, list_in_then l _ _ hd.2 hQ h⟩
theorem any_in (hd : ∀ (i : Nat) (o : Oper), ops[i]? = some o → ndB o = true) (hQ : ∀ a w, ¬ Q .outgrown a w) {md : Region.Mode} : ∀ (fuel : Nat) (listed : Array Bool) (a : Act) (w : World), wpAny P md ops Q fuel listed a w → wpAnyIn (FW ro) n P md ops Q fuel listed a w
 | 0, _, _, _, h => h
 | fuel + 1, listed, a, w, h => ⟨h.1, fun i hi => by
  have h1 := h.2 i hi
  unfold wpOp at h1
  unfold wpOpIn
  cases ho : ops[i]? with
  | none =>
   simp only [ho] at h1 ⊢
   exact any_in hd hQ fuel _ _ _ h1
  | some o =>
   simp only [ho] at h1 ⊢
   split
   ·rename_i hw
    rw [if_pos hw] at h1
    rcases h1 with h1 | ⟨_, a', w', h1⟩
    ·exact Oper.wpIn_mono (fun a w h => any_in hd hQ fuel _ a w h) (op_in (nd_of (hd i o ho)) h1)
    ·exact absurd h1 (hQ a' w')
   ·rename_i hw
    rw [if_neg hw] at h1
    exact ⟨fun _ _ => trivial, any_in hd hQ fuel _ _ _ h1⟩⟩
theorem rr_lit {id : Nat} {l : List Oper} (hd : l.all ndB = true) (hQ : ∀ a w, ¬ Q .outgrown a w) (h : PL P l.toArray Q l a w) : (Code.region id l.toArray false).wpIn (FW ro) n P Q a w := wpIn_region_lit (list_in l a w hd hQ h.out)
theorem rr_held {c : Ctx} {L : List Blk} {id : Nat} {l : List Oper} (hd : l.all ndB = true) (hO : ∀ a w, ¬ Q .outgrown a w) (M : Mem c L w) (Ls : List Blk) (m : Nat) (hn : l.length = m + 1) (hm : P.follows .mixedOrders = true) (hB : (Region.sinkB .any l.toArray m && Region.chainB .any l.toArray m && Region.noSelect l.toArray) = true) (hQ : ∀ c a d v w, Q (.panic c) (Act.put a d v) w → Q (.panic c) a w)
  (h : ∀ w', Mem c L w' → HL P l.toArray Q (Mem c Ls) m (m + 1) (Array.replicate (m + 1) false) a w') : (Code.region id l.toArray true).wpIn (FW ro) n P Q a w := by
 simp only [Bool.and_eq_true] at hB
 have hsz : l.toArray.size = m + 1 := by simpa using hn
 have inv : HeadInv .any l.toArray m (Array.replicate (m + 1) false) :=
  ⟨by simpa using hn.symm, fun j oj _ hl => (by rw [getD_replicate_false] at hl; cases hl), fun t _ ht => getD_in (by simp; omega) (getD_replicate_false _ _)⟩
 have h2 := (h w.drew M.drew).out hQ ⟨hB.1.1, hB.1.2, by omega, hB.2⟩ inv
 refine wpIn_region_any hm (any_in (fun i o ho => ?_) hO _ _ _ _ (wpAny_of_L (S := Mem c Ls) (n := m) _ _ _ _ ?_))
 ·have h3 : l[i]? = some o := by simpa using ho
  exact List.all_eq_true.1 hd o (List.mem_of_getElem? h3)
 ·rw [hsz]
  exact h2
theorem rr_ghost {c : Code} (I : Nat → Act → World → Prop) (n₀ : Nat) (h₀ : I n₀ a w)
  (round : ∀ m a w, I m a w → c.wpIn (FW ro) n P (Exit.then (fun a' w' => ∃ m', m' < m ∧ I m' a' w') Q) a w) : (Code.loop c).wpIn (FW ro) n P Q a w := by
 refine wpIn_loop (fun a w => ∃ m, I m a w) (fun a w => leastOf (fun m => I m a w)) ⟨n₀, h₀⟩ ?_
 intro a w hI
 refine wpIn_mono (round _ a w (leastOf_spec hI).1) ?_
 intro e a' w' hq
 cases e with
 | normal =>
  obtain ⟨m', hlt, hI'⟩ := hq
  exact show (∃ m, I m a' w') ∧ leastOf (fun m => I m a' w') < leastOf (fun m => I m a w) from ⟨⟨m', hI'⟩, Nat.lt_of_le_of_lt ((leastOf_spec ⟨m', hI'⟩).2 m' hI') hlt⟩
 | exit id => exact hq
 | goto l => exact hq
 | ret => exact hq
 | panic ch => exact hq
 | outgrown => exact hq
theorem rr_loop {c : Code} (I : Nat → Act → World → Prop) (N : Nat) (h0 : I 0 a w) (round : ∀ j a w, j < N → I j a w → c.wpIn (FW ro) n P (Exit.then (I (j + 1)) Q) a w) (last : ∀ a w, I N a w → c.wpIn (FW ro) n P (Exit.then (fun _ _ => False) Q) a w) : (Code.loop c).wpIn (FW ro) n P Q a w := by
 refine rr_ghost (fun n a w => n ≤ N ∧ I (N - n) a w) N ⟨Nat.le_refl _, by rw [Nat.sub_self]; exact h0⟩ fun n a w ⟨hn, hI⟩ => ?_
 cases n with
 | zero =>
  rw [Nat.sub_zero] at hI
  refine wpIn_mono (last a w hI) fun e a' w' hq => ?_
  cases e <;> first | exact hq | exact hq.elim
 | succ n =>
  refine wpIn_mono (round (N - (n + 1)) a w (by omega) hI) fun e a' w' hq => ?_
  rw [show N - (n + 1) + 1 = N - n by omega] at hq
  cases e <;> first | exact hq | exact ⟨n, by omega, by omega, hq⟩
def rdPost (lp : Nat) (d : Option Tmp) (a : Act) (Q : Exit → Act → World → Prop) : Exit → Act → World → Prop
 | .normal, _, u => ∃ r, u.heap[lp]? = some (.loop r) ∧ Q .normal (a.put d (.bool true)) (u.putObj lp (.loop { r with state := .ready, pending := none }))
 | .exit i, _, u => ∃ r, u.heap[lp]? = some (.loop r) ∧ Q .normal (a.put d (.bool false)) (u.putObj lp (.loop { r with state := .done, pending := some (.exit i) }))
 | .ret, _, u => ∃ r, u.heap[lp]? = some (.loop r) ∧ Q .normal (a.put d (.bool false)) (u.putObj lp (.loop { r with state := .done, pending := some .ret }))
 | _, _, _ => False
theorem pl_yield (lp : Nat) (r : Loop) (args : Array Value) (hl : w.heap[lp]? = some (.loop r)) (hs : args.size = r.params.size) (hst : r.state = .ready) (hd : ndB o = true) (hrun : ∀ w, (execOp a.eval o).run P w = (Instr.yield lp args).run P w) (hw : Region.wanted o (yielded ops a.tmps) = true)
  (h : r.assign.wpIn (FW (some lp)) 0 P (Exit.then (fun a1 w1 => w1.heap[lp]? = some (.loop r) ∧ r.body.wpIn (FW (some lp)) 0 P (rdPost lp o.dst a Q) a1 (w1.putObj lp (.loop { r with state := .busy }))) (fun _ _ _ => False)) { tmps := (r.params.zip args).foldl (fun t (p, v) => t.setIfInBounds p v) r.tmps, defers := [] } w) :
  wpListIn (FW none) 0 P ops Q [o] a w := by
 unfold wpListIn
 rw [if_pos hw]
 refine ⟨fun _ _ => trivial, ?_⟩
 rw [Oper.semAt_eq _ _ _ (nd_of hd), hrun, run_yield hl hs, Oper.uponIn_round]
 refine ⟨fun e => by simp [FW, Fence.wide] at e, ?_⟩
 refine roundIn_of_wpIn (F := FW none) trivial <| wpIn_mono h ?_
 rintro e a1 w1 hq
 cases e with
 | normal =>
  obtain ⟨h1, h2⟩ := hq
  refine ⟨_, run_beginRound h1 hst, ?_⟩
  refine wpIn_mono h2 ?_
  rintro e a2 w2 hq
  cases e with
  | normal =>
   obtain ⟨r2, h3, h4⟩ := hq
   exact ⟨_, _, run_endRound none h3, h4⟩
  | ret =>
   obtain ⟨r2, h3, h4⟩ := hq
   exact ⟨_, _, run_endRound _ h3, h4⟩
  | exit i =>
   obtain ⟨r2, h3, h4⟩ := hq
   exact ⟨_, _, run_endRound _ h3, h4⟩
  | goto i => exact hq.elim
  | panic c => exact hq.elim
  | outgrown => exact hq.elim
 | ret => exact hq.elim
 | exit i => exact hq.elim
 | goto i => exact hq.elim
 | panic c => exact hq.elim
 | outgrown => exact hq.elim
theorem wp_range {g : Operand} {ps : Array Tmp} {assign body : Code} {gf : FuncId} {lb : Array Value} (hg : a.eval g = .func (.func gf) #[] lb) (eg : ∀ args w, (callFunc gf args).run P w = .ok (.enter gf args) w)
  (h : ∀ fn, Calls P gf (#[.func (.yield (w.heap.size + 1)) #[] #[]] ++ lb) ((w.alloc (.deferred (some []))).alloc (.loop { state := .ready, pending := none, fn, tmps := a.tmps, params := ps, assign, body, defers := w.heap.size }))
   fun e w3 => (∃ v, e = .returned v) ∧ ∃ r, w3.heap[w.heap.size + 1]? = some (.loop r) ∧ r.state ≠ .busy ∧
    (match r.pending with
     | none => Q .normal { a with defers := { target := .collected w.heap.size, args := #[] } :: a.defers } (w3.putObj (w.heap.size + 1) (.loop { r with state := .exhausted }))
     | some c => c.wp P Q { a with defers := { target := .collected w.heap.size, args := #[] } :: a.defers } (w3.putObj (w.heap.size + 1) (.loop { r with state := .exhausted })))) :
  (Code.rangeFunc g ps assign body).wp P Q a w := by
 refine (wpIn_wide (n := 0)).1 <| wpIn_rangeFunc ?_
 intro fn _
 refine ⟨w.heap.size + 1, [{ target := .collected w.heap.size, args := #[] }], ((w.alloc (.deferred (some []))).alloc (.loop { state := .ready, pending := none, fn, tmps := a.tmps, params := ps, assign, body, defers := w.heap.size })), { target := .fn (.func gf) lb, args := #[.func (.yield (w.heap.size + 1)) #[] #[]] }, ((w.alloc (.deferred (some []))).alloc (.loop { state := .ready, pending := none, fn, tmps := a.tmps, params := ps, assign, body, defers := w.heap.size })), gf, #[.func (.yield (w.heap.size + 1)) #[] #[]] ++ lb, ((w.alloc (.deferred (some []))).alloc (.loop { state := .ready, pending := none, fn, tmps := a.tmps, params := ps, assign, body, defers := w.heap.size })), run_enterLoop_outer _ _ _ _ _, ?_, fun _ _ => trivial, ?_, fun e => by simp [Fence.wide] at e, ?_⟩
 ·simp only [resolve, hg]
  simp [go_sem]
 ·simp [invoke, go_sem, eg]
 ·refine (callsIn_wide (n := 0 - 1)).2 ((h fn).mono ?_)
  rintro e w3 ⟨⟨v, rfl⟩, r, h1, h2, h3⟩
  refine ⟨r.pending, _, run_endLoop h1 h2, ?_⟩
  cases hp : r.pending with
  | none =>
   rw [hp] at h3
   exact h3
  | some c =>
   rw [hp] at h3
   exact wpIn_wide.2 h3
theorem marks_ret {fn : Func} {R : Ending → World → Prop} {D : Nat} {v : Value} (hdf : a.defers = [{ target := .collected D, args := #[] }]) (hD : w.heap[D]? = some (.deferred (some []))) (hr : ∀ w, (results fn a.tmps).run P w = .ok v w) (h : R (.returned v) (w.putObj D (.deferred none))) : bodyPostM Fence.wide 0 P fn R .ret a w := by
 show LeavesInM Fence.wide 0 P fn a.tmps R a.defers .returning w
 rw [hdf]
 refine ⟨by simp, .inl ⟨D, _, rfl, run_takeDeferred hD, ?_⟩⟩
 exact ⟨v, hr _, h⟩
end
def NR (Z : Obj) : Prop := ∀ c fz, Z ≠ .cells c 5 fz
structure ST (w : World) (k : Nat) (l : List UInt8) (L : List Blk) (u : World) : Prop where
 bel : Below w.heap.size w u
 hk : w.heap.size ≤ k
 isb : Lib.IsBuilderF 182 5 k k (Lib.byteCells l) u
 at_ : ∀ b ∈ L, u.heap[b.g]? = some b.Z
 ne : ∀ b ∈ L, b.g ≠ k
 nr : ∀ b ∈ L, NR b.Z
 ge : ∀ b ∈ L, w.heap.size ≤ b.g
 nodup : (L.map Blk.g).Nodup
theorem ST.mem {w u : World} {k : Nat} {l : List UInt8} {L : List Blk} (h : ST w k l L u) (hL : Laid w) : Mem ⟨u, L.map Blk.g⟩ L u :=
 ⟨grown_refl _ _, h.at_, fun b hb => .inr (List.mem_map_of_mem hb), h.nodup, below_laid h.bel hL, fun x e => by
  obtain ⟨b, hb, e⟩ := List.mem_map.1 e
  have := h.ge b hb
  have := hL.lt
  omega⟩
theorem isf_lt {w : World} {T e : TypeId} {B b : Nat} {xs : List Value} (h : Lib.IsBuilderF T e B b xs w) : b < w.heap.size := h.elim Lib.BuilderAtF.lt Lib.BuilderAtF.lt
theorem owf_keep {w w' : World} {B : Nat} {e : TypeId} {v : Value} {n : Nat} {xs : List Value} (h : w.ownsRowF B e 1 v n xs) (hb : ∀ (g : Nat) (c : Array Value) (fz : Nat × Nat), w.heap[g]? = some (Obj.cells c e fz) → w'.heap[g]? = w.heap[g]?) : w'.ownsRowF B e 1 v n xs := by
 obtain ⟨h1, h2⟩ := h
 refine ⟨h1, ?_⟩
 rcases h2 with h2 | ⟨g, cap, cur, fz, h3, h4, h5, h6⟩
 ·exact .inl h2
 ·exact .inr ⟨g, cap, cur, fz, h3, h4, by rw [hb g cur fz h5]; exact h5, h6⟩
theorem batf_keep {w w' : World} {T e : TypeId} {B b : Nat} {p : Value} {xs : List Value} (h : Lib.BuilderAtF T e B b p xs w) (hk : w'.heap[b]? = w.heap[b]?) (hb : ∀ (g : Nat) (c : Array Value) (fz : Nat × Nat), w.heap[g]? = some (Obj.cells c e fz) → w'.heap[g]? = w.heap[g]?) : Lib.BuilderAtF T e B b p xs w' := by
 obtain ⟨h1, v, h2, h3, h4⟩ := h
 exact ⟨h1, v, by rw [hk]; exact h2, owf_keep h3 hb, h4⟩
theorem isf_keep {w w' : World} {T e : TypeId} {B b : Nat} {xs : List Value} (h : Lib.IsBuilderF T e B b xs w) (hk : w'.heap[b]? = w.heap[b]?) (hb : ∀ (g : Nat) (c : Array Value) (fz : Nat × Nat), w.heap[g]? = some (Obj.cells c e fz) → w'.heap[g]? = w.heap[g]?) : Lib.IsBuilderF T e B b xs w' := h.imp (batf_keep · hk hb) (batf_keep · hk hb)
theorem ST.next {w u u' : World} {k : Nat} {l : List UInt8} {L L' : List Blk} (h : ST w k l L u) (M : Mem ⟨u, L.map Blk.g⟩ L' u') (hn : ∀ b ∈ L', NR b.Z) : ST w k l L' u' := by
 have hkl := isf_lt h.isb
 have hsz := h.bel.size
 have hr : ∀ g, g ∈ L.map Blk.g → g ≠ k ∧ w.heap.size ≤ g ∧ ∃ Z, u.heap[g]? = some Z ∧ NR Z := fun g hg => by
  obtain ⟨b, hb, rfl⟩ := List.mem_map.1 hg
  exact ⟨h.ne b hb, h.ge b hb, b.Z, h.at_ b hb, h.nr b hb⟩
 have ho : Grw u u' (L.map Blk.g) := M.old
 refine ⟨h.bel.trans ⟨ho.os, ho.tape, ho.output, ho.size, fun j hj => ho.block j (by omega) fun hm => ?_⟩, h.hk, isf_keep h.isb (ho.block k hkl fun hm => (hr k hm).1 rfl) (fun g c fz hg => ho.block g (Array.getElem?_eq_some_iff.1 hg).1 fun hm => ?_), M.at_, fun b hb e => ?_, hn, fun b hb => ?_, M.nodup⟩
 ·have := (hr j hm).2.1
  omega
 ·obtain ⟨_, _, Z, h1, h2⟩ := hr g hm
  rw [hg] at h1
  exact h2 c fz (Option.some.inj h1).symm
 ·rcases M.ge b hb with h1 | h1
  ·have h1 : u.heap.size ≤ b.g := h1
   omega
  ·exact (hr _ h1).1 e
 ·rcases M.ge b hb with h1 | h1
  ·have h1 : u.heap.size ≤ b.g := h1
   omega
  ·exact (hr _ h1).2.1
theorem ST.perm {w u : World} {k : Nat} {l : List UInt8} {L L' : List Blk} (h : ST w k l L u) (hp : L.Perm L') : ST w k l L' u :=
 ⟨h.bel, h.hk, h.isb, fun b hb => h.at_ b (hp.mem_iff.2 hb), fun b hb => h.ne b (hp.mem_iff.2 hb), fun b hb => h.nr b (hp.mem_iff.2 hb), fun b hb => h.ge b (hp.mem_iff.2 hb), (hp.map _).nodup_iff.1 h.nodup⟩
theorem ST.drop {w u : World} {k : Nat} {l : List UInt8} {L L' : List Blk} (h : ST w k l L u) (hp : L'.Sublist L) : ST w k l L' u :=
 ⟨h.bel, h.hk, h.isb, fun b hb => h.at_ b (hp.subset hb), fun b hb => h.ne b (hp.subset hb), fun b hb => h.nr b (hp.subset hb), fun b hb => h.ge b (hp.subset hb), h.nodup.sublist (hp.map _)⟩
theorem cells_one (l : List UInt8) (c : Int) (h0 : 0 ≤ c) (h1 : c < 256) : Lib.byteCells (l ++ [UInt8.ofNat c.toNat]) = Lib.byteCells l ++ [.int .u8 c] := by
 rw [Lib.byteCells_append]
 congr 1
 have e : (UInt8.ofNat c.toNat).toNat = c.toNat := by
  rw [UInt8.toNat_ofNat']
  omega
 show [Value.int .u8 ((UInt8.ofNat c.toNat).toNat : Int)] = _
 rw [e]
 congr 2
 omega
theorem ST.write {w u : World} {k : Nat} {l : List UInt8} {L : List Blk} (h : ST w k l L u) (c : Int) (h0 : 0 ≤ c) (h1 : c < 256) (hl : l.length < 1000000) : Calls Tryz.prog 128 #[.pointer (some ⟨k, 0, none⟩), .int .u8 c] u fun r u' => r = .returned .nilIface ∧ ST w k (l ++ [UInt8.ofNat c.toNat]) L u' := by
 have hkl := isf_lt h.isb
 have hlen : (Lib.byteCells l).length = l.length := Lib.byteCells_length l
 refine (Any.Builder_WriteByte_k (P := Tryz.prog) (ρ := repRen) lays167 repExtra k k (Lib.byteCells l) c u h.isb (by omega) (by omega)).mono ?_
 rintro r u' ⟨rfl, h2, h3, h4⟩
 have hat : ∀ b ∈ L, u'.heap[b.g]? = some b.Z := fun b hb => h4 b.g b.Z (h.at_ b hb) (fun e => h.ne b hb (Option.some.inj e)) (fun cs fz e => h.nr b hb cs fz e)
 exact ⟨rfl, h.bel.trans (h3.mono h.hk), h.hk, .inr (by rw [cells_one l c h0 h1]; exact h2), hat, h.ne, h.nr, h.ge, h.nodup⟩
theorem ST.str {w u : World} {k : Nat} {l : List UInt8} {L : List Blk} (h : ST w k l L u) : Calls Tryz.prog 129 #[.pointer (some ⟨k, 0, none⟩)] u fun r u' => r = .returned (.string ⟨l.toArray⟩) ∧ ST w k l L u' := by
 have hkl := isf_lt h.isb
 refine (Any.Builder_String_any_k (P := Tryz.prog) (ρ := repRen) lays169 repExtra k k l u h.isb (by omega)).mono ?_
 rintro r u' ⟨rfl, h2, h3, h4⟩
 have hat : ∀ b ∈ L, u'.heap[b.g]? = some b.Z := fun b hb => h4 b.g b.Z (h.at_ b hb) (fun e => h.ne b hb (Option.some.inj e)) (fun cs fz e => h.nr b hb cs fz e)
 exact ⟨rfl, h.bel.trans (h3.mono h.hk), h.hk, h2, hat, h.ne, h.nr, h.ge, h.nodup⟩
theorem ST.put {w u : World} {k : Nat} {l : List UInt8} {L : List Blk} (h : ST w k l L u) (hL : Laid w) (i g : Nat) (Z Z' : Obj) (hi : L[i]? = some ⟨g, Z⟩) (hz : NR Z') : ST w k l (L.set i ⟨g, Z'⟩) (u.putObj g Z') := by
 have hg : u.heap[g]? = some Z := h.at_ _ (List.mem_of_getElem? hi)
 have hlt : g < u.heap.size := (Array.getElem?_eq_some_iff.1 hg).1
 have hu : Grw u (u.putObj g Z') [g] := ⟨rfl, rfl, rfl, by simp, fun j _ hj => World.putObj_heap_other (by simpa using hj)⟩
 refine h.next ((h.mem hL).put i ⟨g, Z⟩ hi Z' hu (World.putObj_heap_same hlt)) fun b hb => ?_
 rcases List.mem_or_eq_of_mem_set hb with h1 | h1
 ·exact h.nr b h1
 ·rw [h1]
  exact hz
open Go.RowKit
def findRange : Code → Option (Code × Code)
 | .seq a b => (findRange a).orElse fun _ => findRange b
 | .block _ c => findRange c
 | .rangeFunc _ _ s b => some (s, b)
 | _ => none
theorem code_is {O : Option (Code × Code)} {c0 d0 sg bd : Code} (hO : O = some (c0, d0)) (hc : O = some (sg, bd)) {F : Fence} {n : Nat} {P : Program} {Q : Exit → Act → World → Prop} {a : Act} {w : World} (h : d0.wpIn F n P Q a w) : bd.wpIn F n P Q a w := by
 rw [hO] at hc
 cases hc
 exact h
theorem code_is1 {O : Option (Code × Code)} {c0 d0 sg bd : Code} (hO : O = some (c0, d0)) (hc : O = some (sg, bd)) {F : Fence} {n : Nat} {P : Program} {Q : Exit → Act → World → Prop} {a : Act} {w : World} (h : c0.wpIn F n P Q a w) : sg.wpIn F n P Q a w := by
 rw [hO] at hc
 cases hc
 exact h
theorem au_block_out {id j : Nat} {Q : Exit → Act → World → Prop} {a : Act} {w : World} (h : j ≠ id) (hq : Q (.exit j) a w) : Exit.inBlock id Q (.exit j) a w := by
 show if j = id then Q .normal a w else Q (.exit j) a w
 rw [if_neg h]
 exact hq
def sw (f : NI) : Nat → (Nat → Int)
 | 0 => f
 | i + 1 => upd (sw f i) 12 (va (sw f i 12) 1)
def ob (f : NI) (s : Yb) (i : Nat) : Int := xb (bt s i) (bl (sw f (i / 64)) (i % 64))
def ot (f : NI) (s : Yb) : Nat → List UInt8
 | 0 => []
 | i + 1 => ot f s i ++ [UInt8.ofNat (ob f s i).toNat]
theorem ot_length (f : NI) (s : Yb) : ∀ n, (ot f s n).length = n
 | 0 => rfl
 | n + 1 => by
  unfold ot
  rw [List.length_append, ot_length f s n]
  rfl
theorem ob_nn (f : NI) (s : Yb) (i : Nat) : 0 ≤ ob f s i ∧ ob f s i < 256 := xb_nn _ _
theorem ob_at (f : NI) (s : Yb) (i j : Nat) (hj : j < 64) : xb (bt s (64 * i + j)) (bl (sw f i) j) = ob f s (64 * i + j) := by
 unfold ob
 rw [show (64 * i + j) / 64 = i by omega, show (64 * i + j) % 64 = j by omega]
theorem ext_size (s : Yb) (p : Nat) : (s.extract p s.size).size = s.size - p := by
 rw [ByteArray.size_extract]
 omega
theorem bt_ext (s : Yb) (p j : Nat) : bt (s.extract p s.size) j = bt s (p + j) := by
 unfold bt
 rw [ByteArray.data_extract, Array.getElem?_extract]
 by_cases h : j < s.data.size - p
 ·rw [if_pos (by show j < min s.data.size s.data.size - p; omega)]
 ·rw [if_neg (by show ¬ j < min s.data.size s.data.size - p; omega), Array.getElem?_eq_none (by omega)]
theorem min_if (x y : Nat) : (if (y : Int) < (x : Int) then (y : Int) else (x : Int)) = ((min x y : Nat) : Int) := by
 by_cases h : y < x
 ·rw [if_pos (by omega), Nat.min_eq_right (by omega)]
 ·rw [if_neg (by omega), Nat.min_eq_left (by omega)]
theorem r_body (sg bd : Code) (hb : Tryz.f101.body.bind findRange = some (sg, bd)) (s : Yb) (f : NI) (i : Nat) (hi : 64 * i ≤ s.size) (hz : s.size ≤ 200000) (k gs g7 lp : Nat) (L0 : List Blk) (v : NV) (w u : World) (hL : Laid w) (R : Exit → Act → World → Prop) (hO : ∀ a w, ¬ R .outgrown a w) (hP : ∀ c a w, ¬ R (.panic c) a w)
  (hS : ST w k (ot f s (64 * i)) (⟨gs, .cells (av 1 (fun _ => .string s)) 9⟩ :: ⟨g7, .cells (av 64 (w8 (bl (sw f i)))) 176⟩ :: L0) u)
  (hgo : ∀ a u', 64 < s.size - 64 * i → ST w k (ot f s (64 * i + 64)) (⟨gs, .cells (av 1 (fun _ => .string s)) 9⟩ :: ⟨g7, .cells (av 64 (w8 (bl (sw f i)))) 176⟩ :: L0) u' → R .normal a u')
  (hend : ∀ a u', s.size - 64 * i ≤ 64 → ST w k (ot f s s.size) (⟨gs, .cells (av 1 (fun _ => .string s)) 9⟩ :: ⟨g7, .cells (av 64 (w8 (bl (sw f i)))) 176⟩ :: L0) u' → R (.exit 0) a u') :
  bd.wpIn (FW (some lp)) 0 Tryz.prog R (fm ([v 0, v 1, .pointer (some ⟨gs, 0, none⟩), v 3, v 4, .pointer (some ⟨k, 0, none⟩), .int .i64 ((64 * i : Nat) : Int), .pointer (some ⟨g7, 0, none⟩)] ++ vr v 8 31)) u := by
 refine code_is (O := Tryz.f101.body.bind findRange) rfl hb ?_
 have M := hS.mem hL
 refine wpIn_block <| wpIn_seq <| rr_lit (by kernel_rfl) (fun _ _ h => hO _ _ h) <| ZE M 17 0 0 <| rV 1 <| pH 19 (.string (s.extract (64 * i) s.size)) (run_strl 9 Tryz.underlying9 _ _ rfl s (by kernel_rfl) .i64 (64 * i) (by kernel_rfl) hi _ rfl) <| rV 1 <| nT <| wpIn_seq <| wpIn_seq <| rr_lit (by kernel_rfl) (fun _ _ h => hO _ _ h) <| rV 1 <| zJ 21 (.int .i64 ((s.size - 64 * i : Nat) : Int)) (.int .i64 ((s.extract (64 * i) s.size).size : Int)) (by rw [ext_size]) <| zJ 22 (.int .i64 ((min (s.size - 64 * i) 64 : Nat) : Int)) (.int .i64 (if (64 : Int) < ((s.size - 64 * i : Nat) : Int) then (64 : Int) else ((s.size - 64 * i : Nat) : Int))) (by rw [show (if (64 : Int) < ((s.size - 64 * i : Nat) : Int) then (64 : Int) else ((s.size - 64 * i : Nat) : Int)) = ((min (s.size - 64 * i) 64 : Nat) : Int) from min_if (s.size - 64 * i) 64]) <| rV 1 <| nT ?_
 refine wpIn_block ?_
 have hS1 := hS.next M hS.nr
 obtain ⟨N, hN⟩ : ∃ N, min (s.size - 64 * i) 64 = N := ⟨_, rfl⟩
 have hN2 : N ≤ 64 ∧ N ≤ s.size - 64 * i := by rw [← hN]; exact ⟨Nat.min_le_right _ _, Nat.min_le_left _ _⟩
 rw [hN]
 refine rr_loop (fun j a u => ∃ v1 : NV, a = (fm ([v 0, v 1, .pointer (some ⟨gs, 0, none⟩), v 3, v 4, .pointer (some ⟨k, 0, none⟩), .int .i64 ((64 * i : Nat) : Int), .pointer (some ⟨g7, 0, none⟩), .string (s.extract (64 * i) s.size), v1 9] ++ vr v 10 7 ++ [.string s, .int .i64 ((64 * i : Nat) : Int), .string (s.extract (64 * i) s.size), .string (s.extract (64 * i) s.size), .int .i64 ((s.size - 64 * i : Nat) : Int), .int .i64 ((N : Nat) : Int), .int .i64 (j : Int)] ++ vr v1 24 11 ++ vr v 35 4)) ∧ ST w k (ot f s (64 * i + j)) (⟨gs, .cells (av 1 (fun _ => .string s)) 9⟩ :: ⟨g7, .cells (av 64 (w8 (bl (sw f i)))) 176⟩ :: L0) u) N ⟨fun k_ => ([v 9, undef, undef, undef, undef, undef, undef, undef, undef, undef, undef, undef, undef, undef, undef, v 24, v 25, v 26, v 27, v 28, v 29, v 30, v 31, v 32, v 33, v 34] : List Value).getD (k_ - 9) undef, by kernel_rfl, hS1⟩ ?_ ?_
 ·intro j a u0 hj hI
  clear M hS1 hS
  obtain ⟨v1, rfl, hS⟩ := hI
  have M := hS.mem hL
  refine wpIn_seq <| rr_lit (by kernel_rfl) (fun _ _ h => hO _ _ h) <| ZT 24 ((j : Int) < (N : Int)) <| nT <| wpIn_seq <| wpIn_cond_true (by kernel_rfl) <| wpIn_skip <| au_then <| wpIn_seq <| wpIn_block <| wpIn_seq <| rr_lit (by kernel_rfl) (fun _ _ h => hO _ _ h) <| rV 2 <| nT <| rr_held (by kernel_rfl) (fun _ _ h => hO _ _ h) M (⟨gs, .cells (av 1 (fun _ => .string s)) 9⟩ :: ⟨g7, .cells (av 64 (w8 (bl (sw f i)))) 176⟩ :: L0) 7 rfl (by kernel_rfl) (by kernel_rfl) (fun _ _ _ _ _ h => (hP _ _ _ h).elim) fun u1 M => qV M 0 26 (.string (s.extract (64 * i) s.size)) ?_
  refine qV M 1 27 (.int .i64 (j : Int)) <| qH M 2 28 (.int .u8 (bt s (64 * i + j))) (fun w _ => (fun w => Eq.trans (run_ixS 9 Tryz.underlying9 _ _ rfl (s.extract (64 * i) s.size) (by kernel_rfl) .i64 j (by kernel_rfl) (by rw [ext_size]; omega) w) (by rw [bt_ext])) w) <| qV M 3 29 (.int .i64 (j : Int)) <| qH M 4 30 (.pointer (some ⟨g7, j, none⟩)) (fun w _ => (run_ix1 176 64 5 Tryz.underlying176 inz5 _ _ rfl g7 (by kernel_rfl) .i64 (j) (by kernel_rfl) (by omega)) w) <| qE M 5 31 1 j <| qH M 6 32 (.int .u8 (ob f s (64 * i + j))) (fun w _ => (fun w => Eq.trans (b := .ok (.value (.int .u8 (xb (bt s (64 * i + j)) (bl (sw f i) j)))) w) (by kernel_rfl) (by rw [ob_at f s i j (by omega)])) w) <| qZ ?_
  refine pl_callr (want_no rfl) (some 33) rfl 128 #[.pointer (some ⟨k, 0, none⟩), .int .u8 (ob f s (64 * i + j))] .nilIface _ (fun _ => by kernel_rfl) ((hS.next M hS.nr).write (ob f s (64 * i + j)) (ob_nn _ _ _).1 (ob_nn _ _ _).2 (by rw [ot_length]; omega)) ?_
  intro u2 hS2
  refine nT <| au_block <| au_then <| rr_lit (by kernel_rfl) (fun _ _ h => hO _ _ h) <| ZI 34 ((j : Int) + 1) ((j + 1 : Nat) : Int) <| rV 1 <| nT ?_
  exact exS hS2
 ·intro a u0 hI
  clear M hS1 hS
  obtain ⟨v1, rfl, hS⟩ := hI
  by_cases hc : s.size - 64 * i ≤ 64
  ·have M := hS.mem hL
   refine wpIn_seq <| rr_lit (by kernel_rfl) (fun _ _ h => hO _ _ h) <| ZF 24 ((N : Int) < (N : Int)) <| nT <| wpIn_seq <| wpIn_cond_false (by kernel_rfl) <| wpIn_exit <| au_then_exit <| au_then_exit <| au_block_exit <| au_then <| wpIn_seq <| rr_lit (by kernel_rfl) (fun _ _ h => hO _ _ h) <| rV 1 <| zJ 36 (.int .i64 ((s.size - 64 * i : Nat) : Int)) (.int .i64 ((s.extract (64 * i) s.size).size : Int)) (by rw [ext_size]) <| ZT 37 (((s.size - 64 * i : Nat) : Int) ≤ 64) ?_
   refine nT <| wpIn_cond_true (by kernel_rfl) <| wpIn_exit <| au_block_out (by decide) ?_
   have e : 64 * i + N = s.size := by rw [← hN, Nat.min_eq_left hc]; omega
   have hS3 := hS.next M hS.nr
   rw [e] at hS3
   exact hend _ _ hc hS3
  ·have M := hS.mem hL
   refine wpIn_seq <| rr_lit (by kernel_rfl) (fun _ _ h => hO _ _ h) <| ZF 24 ((N : Int) < (N : Int)) <| nT <| wpIn_seq <| wpIn_cond_false (by kernel_rfl) <| wpIn_exit <| au_then_exit <| au_then_exit <| au_block_exit <| au_then <| wpIn_seq <| rr_lit (by kernel_rfl) (fun _ _ h => hO _ _ h) <| rV 1 <| zJ 36 (.int .i64 ((s.size - 64 * i : Nat) : Int)) (.int .i64 ((s.extract (64 * i) s.size).size : Int)) (by rw [ext_size]) <| ZF 37 (((s.size - 64 * i : Nat) : Int) ≤ 64) ?_
   refine nT <| wpIn_cond_false (by kernel_rfl) <| wpIn_skip <| au_block ?_
   have e : N = 64 := by rw [← hN]; exact Nat.min_eq_right (by omega)
   have hS3 := hS.next M hS.nr
   rw [e] at hS3
   exact hgo _ _ (by omega) hS3
open Go.RowKit
def lpr (st : LoopState) (pe : Option Code) (fn : FuncId) (T : Array Value) (sg bd : Code) (D : Nat) : Loop := { state := st, pending := pe, fn := fn, tmps := T, params := #[15, 16], assign := sg, body := bd, defers := D }
def tF (k gs : Nat) (v : NV) : Array Value := #[v 0, v 1, .pointer (some ⟨gs, 0, none⟩), v 3, v 4, .pointer (some ⟨k, 0, none⟩), v 6, v 7, v 8, v 9, v 10, v 11, v 12, v 13, v 14, v 15, v 16, v 17, v 18, v 19, v 20, v 21, v 22, v 23, v 24, v 25, v 26, v 27, v 28, v 29, v 30, v 31, v 32, v 33, v 34, v 35, v 36, v 37, v 38]
theorem fr_is {a b : Act} (h : a = b) {c : Code} {F : Fence} {n : Nat} {P : Program} {Q : Exit → Act → World → Prop} {w : World} (k : c.wpIn F n P Q b w) : c.wpIn F n P Q a w := by
 rw [h]
 exact k
theorem rg_yieldN {P : Program} {a : Act} {w : World} {Q : Exit → Act → World → Prop} {id : Nat} {l : List Oper} (m : Nat) (hd : (l.take m).all ndB = true) (hQ : ∀ a w, ¬ Q .outgrown a w) (h : PL P l.toArray (Exit.then (wpListIn (FW none) 0 P l.toArray Q (l.drop m)) Q) (l.take m) a w) : (Code.region id l.toArray false).wp P Q a w := by
 refine (wpIn_wide (n := 0)).1 <| wpIn_region_lit (F := FW none) ?_
 have h2 := list_in_then (ro := none) (n := 0) (l.take m) a w hd hQ h.out
 rw [List.take_append_drop] at h2
 exact h2
theorem nr_loop (r : Loop) : NR (.loop r) := fun _ _ e => by cases e
theorem nr_def (x : Option (List Deferred)) : NR (.deferred x) := fun _ _ e => by cases e
theorem nr_cells (c : Array Value) (T : TypeId) (h : T ≠ 5) : NR (.cells c T) := fun _ _ e => by
 cases e
 exact h rfl
theorem nrs_nil : ∀ b ∈ ([] : List Blk), NR b.Z := fun _ h => by cases h
theorem nrs_cons {x : Blk} {L : List Blk} (h : NR x.Z) (hs : ∀ b ∈ L, NR b.Z) : ∀ b ∈ x :: L, NR b.Z := fun b hb => by
 rcases List.mem_cons.1 hb with rfl | hb
 ·exact h
 ·exact hs b hb
theorem c_stream (f : NI) (w : World) (hL : Laid w) : Calls Tryz.prog 127 #[.agg (av 16 (w32 f))] w fun r w' => ∃ g, r = .returned (.func (.func 159) #[] #[.pointer (some ⟨g, 0, none⟩)]) ∧ w.heap.size ≤ g ∧ w'.heap[g]? = some (.cells (av 16 (w32 f)) 152) ∧ Below w.heap.size w w' := by
 go_enter Tryz.func127, Tryz.ntmps127
 have M := Mem.start hL
 refine sR <| pN M 1 (.cells (av 16 (w32 f)) 152) fun g1 u1 M => rV 1 <| nT <| sq <| wp_ret ?_
 exact bX (.func (.func 159) #[] #[.pointer (some ⟨g1, 0, none⟩)]) ⟨g1, rfl, (M.ge _ (List.mem_of_getElem? (i := 0) rfl)).elim id (fun h => by cases h), M.get 0 rfl, below_grown M.old⟩
theorem perm_last {α : Type} (x : α) : ∀ (L : List α), (L ++ [x]).Perm (x :: L) := fun L => List.perm_append_singleton x L
theorem c_iter (sg bd : Code) (hb : Tryz.f101.body.bind findRange = some (sg, bd)) (s : Yb) (f : NI) (hz : s.size ≤ 200000) (k gs gc lp D : Nat) (fn : FuncId) (v : NV) (w u : World) (hL : Laid w)
  (hS : ST w k [] [⟨gs, .cells (av 1 (fun _ => .string s)) 9⟩, ⟨gc, .cells (av 16 (w32 f)) 152⟩, ⟨lp, .loop (lpr .ready none fn (tF k gs v) sg bd D)⟩, ⟨D, .deferred (some [])⟩] u) : Calls Tryz.prog 159 #[.func (.yield lp) #[] #[], .pointer (some ⟨gc, 0, none⟩)] u fun e u' => (∃ v, e = .returned v) ∧ ST w k (ot f s s.size) [⟨gs, .cells (av 1 (fun _ => .string s)) 9⟩, ⟨gc, .cells (av 16 (w32 f)) 152⟩, ⟨lp, .loop (lpr .done (some (.exit 0)) fn (tF k gs v) sg bd D)⟩, ⟨D, .deferred (some [])⟩] u' := by
 go_enter Tryz.func159, Tryz.ntmps159
 have M := hS.mem hL
 refine sR <| pA M 5 1 16 (w32 f) <| pN M 3 (.cells (av 16 (w32 (fun _ => 0))) 152) fun g1 u1 M => ZG M 4 16 (w32 f) fun u2 M => nT <| sq <| wp_block ?_
 have hS1 := hS.next M (nrs_cons (nr_cells _ _ (by decide)) (nrs_cons (nr_cells _ _ (by decide)) (nrs_cons (nr_loop _) (nrs_cons (nr_def _) (nrs_cons (nr_cells _ _ (by decide)) (nrs_nil))))))
 obtain ⟨N, hN⟩ : ∃ N, N = (s.size - 1) / 64 := ⟨_, rfl⟩
 refine au_loop (fun j a u => ∃ v1 : NV, a = (fm ([.func (.yield lp) #[] #[], .pointer (some ⟨gc, 0, none⟩), undef, .pointer (some ⟨g1, 0, none⟩), .int .i64 ((64 * j : Nat) : Int), .agg (av 16 (w32 f))] ++ vr v1 6 11)) ∧ ST w k (ot f s (64 * j)) [⟨gs, .cells (av 1 (fun _ => .string s)) 9⟩, ⟨gc, .cells (av 16 (w32 f)) 152⟩, ⟨lp, .loop (lpr .ready none fn (tF k gs v) sg bd D)⟩, ⟨D, .deferred (some [])⟩, ⟨g1, .cells (av 16 (w32 (sw f j))) 152⟩] u) N (exS hS1) ?_ ?_
 ·intro j a u0 hj hI
  clear hS1 M hS
  obtain ⟨v1, rfl, hS⟩ := hI
  have M := hS.mem hL
  refine wp_seq <| wp_seq <| rg_yieldN 4 (by kernel_rfl) (fun _ _ h => by obtain ⟨⟨_, e⟩, _⟩ := h; cases e) ?_
  simp only [List.take_succ_cons, List.take_zero, List.drop_succ_cons, List.drop_zero]
  refine rV 2 <| pA M 8 4 16 (w32 (sw f j)) <| ZC M 9 (fun w M => c_block (sw f j) w M.laid) fun u3 M => nT ?_
  have hS2 := hS.next M (nrs_cons (nr_cells _ _ (by decide)) (nrs_cons (nr_cells _ _ (by decide)) (nrs_cons (nr_loop _) (nrs_cons (nr_def _) (nrs_cons (nr_cells _ _ (by decide)) (nrs_nil))))))
  refine pl_yield lp (lpr .ready none fn (tF k gs v) sg bd D) #[.int .i64 ((64 * j : Nat) : Int), .agg (av 64 (w8 (bl (sw f j))))] (M.get 2 rfl) rfl rfl (by kernel_rfl) (fun _ => by kernel_rfl) (want_no rfl) <| code_is1 (O := Tryz.f101.body.bind findRange) rfl hb <| fr_is (b := (fm ([v 0, v 1, .pointer (some ⟨gs, 0, none⟩), v 3, v 4, .pointer (some ⟨k, 0, none⟩)] ++ vr v 6 9 ++ [.int .i64 ((64 * j : Nat) : Int), .agg (av 64 (w8 (bl (sw f j))))] ++ vr v 17 22))) (by kernel_rfl) <| wpIn_seq <| rr_lit (by kernel_rfl) (fun _ _ h => h) <| rV 1 <| nT <| rr_lit (by kernel_rfl) (fun _ _ h => h) <| pN M 7 (.cells (av 64 (w8 (fun _ => 0))) 176) fun g52 u54 M => ZG M 5 64 (w8 (bl (sw f j))) fun u55 M => nT ?_
  refine ⟨M.get 2 rfl, ?_⟩
  have hS3 := (hS.next M (nrs_cons (nr_cells _ _ (by decide)) (nrs_cons (nr_cells _ _ (by decide)) (nrs_cons (nr_loop _) (nrs_cons (nr_def _) (nrs_cons (nr_cells _ _ (by decide)) (nrs_cons (nr_cells _ _ (by decide)) (nrs_nil)))))))).put hL 2 lp _ (.loop { lpr .ready none fn (tF k gs v) sg bd D with state := .busy }) rfl (nr_loop _)
  refine fr_is (b := (fm ([v 0, v 1, .pointer (some ⟨gs, 0, none⟩), v 3, v 4, .pointer (some ⟨k, 0, none⟩), .int .i64 ((64 * j : Nat) : Int), .pointer (some ⟨g52, 0, none⟩)] ++ vr v 8 7 ++ [.int .i64 ((64 * j : Nat) : Int), .agg (av 64 (w8 (bl (sw f j))))] ++ vr v 17 22))) (by kernel_rfl) ?_
  refine r_body sg bd hb s f j (by omega) hz k gs g52 lp [⟨gc, .cells (av 16 (w32 f)) 152⟩, ⟨lp, .loop (lpr .busy none fn (tF k gs v) sg bd D)⟩, ⟨D, .deferred (some [])⟩, ⟨g1, .cells (av 16 (w32 (sw f j))) 152⟩] (fun k_ => ([v 0, v 1, .pointer (some ⟨gs, 0, none⟩), v 3, v 4, .pointer (some ⟨k, 0, none⟩), .int .i64 ((64 * j : Nat) : Int), .pointer (some ⟨g52, 0, none⟩), v 8, v 9, v 10, v 11, v 12, v 13, v 14, .int .i64 ((64 * j : Nat) : Int), .agg (av 64 (w8 (bl (sw f j)))), v 17, v 18, v 19, v 20, v 21, v 22, v 23, v 24, v 25, v 26, v 27, v 28, v 29, v 30, v 31, v 32, v 33, v 34, v 35, v 36, v 37, v 38] : List Value).getD (k_ - 0) undef) w _ hL _ (fun _ _ h => h) (fun _ _ _ h => h) (hS3.perm (.cons _ (perm_last _ [_, _, _, _]))) ?_ ?_
  ·intro a9 u9 hc hS4
   refine ⟨lpr .busy none fn (tF k gs v) sg bd D, hS4.at_ _ (List.mem_of_getElem? (i := 3) rfl), ?_⟩
   have hS5 := (hS4.put hL 3 lp _ (.loop { lpr .busy none fn (tF k gs v) sg bd D with state := .ready, pending := none }) rfl (nr_loop _)).drop (.cons_cons _ (.cons _ (.cons_cons _ (.cons_cons _ (.cons_cons _ (.cons_cons _ .slnil))))))
   generalize u9.putObj lp _ = u8 at hS5 ⊢
   have hS6 : ST w k (ot f s (64 * j + 64)) [⟨gs, .cells (av 1 (fun _ => .string s)) 9⟩, ⟨gc, .cells (av 16 (w32 f)) 152⟩, ⟨lp, .loop (lpr .ready none fn (tF k gs v) sg bd D)⟩, ⟨D, .deferred (some [])⟩, ⟨g1, .cells (av 16 (w32 (sw f j))) 152⟩] u8 := hS5
   have M := hS6.mem hL
   refine au_then <| cT <| wp_skip <| au_then <| wp_seq <| wp_block <| rg_lit <| rV 1 <| ZE M 14 4 12 <| rV 2 <| ZP32 M 4 12 (va ((sw f j) 12) 1) fun u56 M => pl_nil <| au_block <| au_then <| rg_lit <| rV 1 ?_
   refine ZI 12 (((64 * j : Nat) : Int) + 64) ((64 * (j + 1) : Nat) : Int) <| rV 1 <| nT ?_
   exact exS (hS6.next M (nrs_cons (nr_cells _ _ (by decide)) (nrs_cons (nr_cells _ _ (by decide)) (nrs_cons (nr_loop _) (nrs_cons (nr_def _) (nrs_cons (nr_cells _ _ (by decide)) (nrs_nil)))))))
  ·intro a9 u9 hc _
   exact absurd hc (by omega)
 ·intro a u0 hI
  clear hS1 M hS
  obtain ⟨v1, rfl, hS⟩ := hI
  have M := hS.mem hL
  refine wp_seq <| wp_seq <| rg_yieldN 4 (by kernel_rfl) (fun _ _ h => by obtain ⟨⟨_, e⟩, _⟩ := h; cases e) ?_
  simp only [List.take_succ_cons, List.take_zero, List.drop_succ_cons, List.drop_zero]
  refine rV 2 <| pA M 8 4 16 (w32 (sw f N)) <| ZC M 9 (fun w M => c_block (sw f N) w M.laid) fun u57 M => nT ?_
  have hS2 := hS.next M (nrs_cons (nr_cells _ _ (by decide)) (nrs_cons (nr_cells _ _ (by decide)) (nrs_cons (nr_loop _) (nrs_cons (nr_def _) (nrs_cons (nr_cells _ _ (by decide)) (nrs_nil))))))
  refine pl_yield lp (lpr .ready none fn (tF k gs v) sg bd D) #[.int .i64 ((64 * N : Nat) : Int), .agg (av 64 (w8 (bl (sw f N))))] (M.get 2 rfl) rfl rfl (by kernel_rfl) (fun _ => by kernel_rfl) (want_no rfl) <| code_is1 (O := Tryz.f101.body.bind findRange) rfl hb <| fr_is (b := (fm ([v 0, v 1, .pointer (some ⟨gs, 0, none⟩), v 3, v 4, .pointer (some ⟨k, 0, none⟩)] ++ vr v 6 9 ++ [.int .i64 ((64 * N : Nat) : Int), .agg (av 64 (w8 (bl (sw f N))))] ++ vr v 17 22))) (by kernel_rfl) <| wpIn_seq <| rr_lit (by kernel_rfl) (fun _ _ h => h) <| rV 1 <| nT <| rr_lit (by kernel_rfl) (fun _ _ h => h) <| pN M 7 (.cells (av 64 (w8 (fun _ => 0))) 176) fun g103 u108 M => ZG M 5 64 (w8 (bl (sw f N))) fun u109 M => nT ?_
  refine ⟨M.get 2 rfl, ?_⟩
  have hS3 := (hS.next M (nrs_cons (nr_cells _ _ (by decide)) (nrs_cons (nr_cells _ _ (by decide)) (nrs_cons (nr_loop _) (nrs_cons (nr_def _) (nrs_cons (nr_cells _ _ (by decide)) (nrs_cons (nr_cells _ _ (by decide)) (nrs_nil)))))))).put hL 2 lp _ (.loop { lpr .ready none fn (tF k gs v) sg bd D with state := .busy }) rfl (nr_loop _)
  refine fr_is (b := (fm ([v 0, v 1, .pointer (some ⟨gs, 0, none⟩), v 3, v 4, .pointer (some ⟨k, 0, none⟩), .int .i64 ((64 * N : Nat) : Int), .pointer (some ⟨g103, 0, none⟩)] ++ vr v 8 7 ++ [.int .i64 ((64 * N : Nat) : Int), .agg (av 64 (w8 (bl (sw f N))))] ++ vr v 17 22))) (by kernel_rfl) ?_
  refine r_body sg bd hb s f N (by omega) hz k gs g103 lp [⟨gc, .cells (av 16 (w32 f)) 152⟩, ⟨lp, .loop (lpr .busy none fn (tF k gs v) sg bd D)⟩, ⟨D, .deferred (some [])⟩, ⟨g1, .cells (av 16 (w32 (sw f N))) 152⟩] (fun k_ => ([v 0, v 1, .pointer (some ⟨gs, 0, none⟩), v 3, v 4, .pointer (some ⟨k, 0, none⟩), .int .i64 ((64 * N : Nat) : Int), .pointer (some ⟨g103, 0, none⟩), v 8, v 9, v 10, v 11, v 12, v 13, v 14, .int .i64 ((64 * N : Nat) : Int), .agg (av 64 (w8 (bl (sw f N)))), v 17, v 18, v 19, v 20, v 21, v 22, v 23, v 24, v 25, v 26, v 27, v 28, v 29, v 30, v 31, v 32, v 33, v 34, v 35, v 36, v 37, v 38] : List Value).getD (k_ - 0) undef) w _ hL _ (fun _ _ h => h) (fun _ _ _ h => h) (hS3.perm (.cons _ (perm_last _ [_, _, _, _]))) ?_ ?_
  ·intro a9 u9 hc _
   exact absurd hc (by omega)
  ·intro a9 u9 hc hS4
   refine ⟨lpr .busy none fn (tF k gs v) sg bd D, hS4.at_ _ (List.mem_of_getElem? (i := 3) rfl), ?_⟩
   have hS5 := (hS4.put hL 3 lp _ (.loop { lpr .busy none fn (tF k gs v) sg bd D with state := .done, pending := (some (.exit 0)) }) rfl (nr_loop _)).drop (.cons_cons _ (.cons _ (.cons_cons _ (.cons_cons _ (.cons_cons _ (.cons_cons _ .slnil))))))
   generalize u9.putObj lp _ = u8 at hS5 ⊢
   have hS6 : ST w k (ot f s s.size) [⟨gs, .cells (av 1 (fun _ => .string s)) 9⟩, ⟨gc, .cells (av 16 (w32 f)) 152⟩, ⟨lp, .loop (lpr .done (some (.exit 0)) fn (tF k gs v) sg bd D)⟩, ⟨D, .deferred (some [])⟩, ⟨g1, .cells (av 16 (w32 (sw f N))) 152⟩] u8 := hS5
   have M := hS6.mem hL
   refine au_then <| cF <| wp_exit <| au_then_exit <| au_then_exit <| au_block_exit ?_
   exact bodyPost_end (v := .tuple #[]) (results_none Tryz.results159 _ _) (by kernel_rfl) ⟨⟨_, rfl⟩, (hS6.next M (nrs_cons (nr_cells _ _ (by decide)) (nrs_cons (nr_cells _ _ (by decide)) (nrs_cons (nr_loop _) (nrs_cons (nr_def _) (nrs_cons (nr_cells _ _ (by decide)) (nrs_nil))))))).drop (.cons_cons _ (.cons_cons _ (.cons_cons _ (.cons_cons _ (.cons _ .slnil)))))⟩
open Go.RowKit
open Go.Shelf
theorem ST.alloc2 {w u : World} {k : Nat} {l : List UInt8} {L : List Blk} (h : ST w k l L u) (hL : Laid w) (Z1 Z2 : Obj) (h1 : NR Z1) (h2 : NR Z2) : ST w k l (L ++ [⟨u.heap.size, Z1⟩, ⟨u.heap.size + 1, Z2⟩]) ((u.alloc Z1).alloc Z2) := by
 have M1 := (h.mem hL).new u.heap.size Z1 (new_below u Z1) (heap_alloc_new u Z1) (Nat.le_refl _)
 have e : (u.alloc Z1).heap.size = u.heap.size + 1 := World.size_alloc _ _
 have M2 := M1.new (u.heap.size + 1) Z2 (new_below (u.alloc Z1) Z2) (by rw [← e]; exact heap_alloc_new (u.alloc Z1) Z2) (by rw [e]; exact Nat.le_refl _)
 have h3 := h.next M2 (fun b hb => by
  rcases List.mem_append.1 hb with hb | hb
  ·rcases List.mem_append.1 hb with hb | hb
   ·exact h.nr b hb
   ·rw [List.mem_singleton.1 hb]
    exact h1
  ·rw [List.mem_singleton.1 hb]
   exact h2)
 rw [List.append_assoc] at h3
 exact h3
theorem ST.get {w u : World} {k : Nat} {l : List UInt8} {L : List Blk} (h : ST w k l L u) (i : Nat) {g : Nat} {Z : Obj} (hi : L[i]? = some ⟨g, Z⟩) : u.heap[g]? = some Z := h.at_ _ (List.mem_of_getElem? hi)
theorem ST.start {w u : World} {gs gf k n : Nat} {Zs Zf : Obj} (M : Mem ⟨w, []⟩ [⟨gs, Zs⟩, ⟨gf, Zf⟩, ⟨k, .cells (av 2 bF0) 182⟩] u) (h1 : gs < k) (h2 : gf < k) (hs : NR Zs) (hf : NR Zf) (hn : n ≤ 200000) : Calls Tryz.prog 126 #[.pointer (some ⟨k, 0, none⟩), .int .i64 (n : Int)] u fun r u' => r = .returned (.tuple #[]) ∧ ST w k [] [⟨gs, Zs⟩, ⟨gf, Zf⟩] u' := by
 have hkl : k < u.heap.size := (Array.getElem?_eq_some_iff.1 (M.get 2 rfl)).1
 have g1 : w.heap.size ≤ gs := (M.ge _ (List.mem_of_getElem? (i := 0) rfl)).elim id (fun h => by cases h)
 have g2 : w.heap.size ≤ gf := (M.ge _ (List.mem_of_getElem? (i := 1) rfl)).elim id (fun h => by cases h)
 refine (Any.Builder_Grow_fresh (P := Tryz.prog) (ρ := repRen) lays165 repExtra k k n u (Nat.le_refl _) (M.get 2 rfl) (by omega) (by omega)).mono ?_
 rintro r u' ⟨rfl, h3, h4⟩
 have hb0 : Below w.heap.size w u := below_grown M.old
 refine ⟨rfl, hb0.trans (h4.mono (by omega)), by omega, .inr (Lib.BuilderAtF.of h3), ?_, ?_, nrs_cons hs (nrs_cons hf nrs_nil), ?_, ?_⟩
 ·intro b hb
  rcases List.mem_cons.1 hb with rfl | hb
  ·exact (h4.block gs h1).trans (M.get 0 rfl)
  ·rw [List.mem_singleton.1 hb]
   exact (h4.block gf h2).trans (M.get 1 rfl)
 ·intro b hb
  rcases List.mem_cons.1 hb with rfl | hb
  ·show gs ≠ k
   omega
  ·rw [List.mem_singleton.1 hb]
   show gf ≠ k
   omega
 ·intro b hb
  rcases List.mem_cons.1 hb with rfl | hb
  ·exact g1
  ·rw [List.mem_singleton.1 hb]
   exact g2
 ·have := M.nodup
  simp at this
  simp [this.1.1]
theorem c_iterT (sg bd : Code) (hb : Tryz.f101.body.bind findRange = some (sg, bd)) (s : Yb) (f : NI) (hz : s.size ≤ 200000) (k gs gc lp D : Nat) (fn : FuncId) (v : NV) (T : Array Value) (hT : T = tF k gs v) (w u : World) (hL : Laid w)
  (hS : ST w k [] [⟨gs, .cells (av 1 (fun _ => .string s)) 9⟩, ⟨gc, .cells (av 16 (w32 f)) 152⟩, ⟨lp, .loop (lpr .ready none fn T sg bd D)⟩, ⟨D, .deferred (some [])⟩] u) : Calls Tryz.prog 159 #[.func (.yield lp) #[] #[], .pointer (some ⟨gc, 0, none⟩)] u fun e u' => (∃ v, e = .returned v) ∧ ∃ r : Loop, r.state ≠ .busy ∧ r.pending = some (.exit 0) ∧ ST w k (ot f s s.size) [⟨gs, .cells (av 1 (fun _ => .string s)) 9⟩, ⟨gc, .cells (av 16 (w32 f)) 152⟩, ⟨lp, .loop r⟩, ⟨D, .deferred (some [])⟩] u' := by
 subst hT
 exact (c_iter sg bd hb s f hz k gs gc lp D fn v w u hL hS).mono fun e u' h => ⟨h.1, lpr .done (some (.exit 0)) fn (tF k gs v) sg bd D, (show LoopState.done ≠ LoopState.busy by decide), rfl, h.2⟩
theorem fr_w {a b : Act} (h : a = b) {c : Code} {P : Program} {Q : Exit → Act → World → Prop} {w : World} (k : c.wp P Q b w) : c.wp P Q a w := by
 rw [h]
 exact k
def oS (f : NI) (s : Yb) : ByteArray := ⟨(ot f s s.size).toArray⟩
theorem c_turned (s : Yb) (f : NI) (hz : s.size ≤ 200000) (w : World) (hL : Laid w) : Cs 101 #[.string s, .agg (av 16 (w32 f))] w (.string (oS f s)) := by
 refine (callsIn_wide (n := 0)).1 (callsIn_of_wp_marks Tryz.func101 rfl trivial ?_)
 refine (wpIn_wide (n := 0)).2 <| fr_w (b := (fm ([.string s, .agg (av 16 (w32 f))] ++ und 37))) (by kernel_rfl) ?_
 have M := Mem.start hL
 refine sR <| pN M 2 (.cells (av 1 (fun _ => .string s)) 9) fun g1 u1 M => pN M 3 (.cells (av 16 (w32 f)) 152) fun g2 u2 M => rV 1 <| nT <| sR <| pl_newB M (want_no rfl) (some 5) rfl (.cells (av 2 bF0) 182) (fun _ => by kernel_rfl) ?_
 intro g3 u3 hlt M
 refine nT <| sR <| ZE M 10 0 0 <| rV 1 <| pl_callr (want_no rfl) (some 12) rfl 126 #[.pointer (some ⟨g3, 0, none⟩), .int .i64 (s.size : Int)] (.tuple #[]) _ (fun _ => by kernel_rfl) (ST.start M (hlt _ (List.mem_of_getElem? (i := 0) rfl)) (hlt _ (List.mem_of_getElem? (i := 1) rfl)) (nr_cells _ _ (by decide)) (nr_cells _ _ (by decide)) hz) ?_
 intro u4 hS
 clear M
 have M := hS.mem hL
 refine nT <| wp_seq <| sR <| pA M 13 1 16 (w32 f) <| pl_calln M (want_no rfl) (some 14) rfl 127 #[.agg (av 16 (w32 f))] (fun g4 => .func (.func 159) #[] #[.pointer (some ⟨g4, 0, none⟩)]) (.cells (av 16 (w32 f)) 152) (fun _ => by kernel_rfl) (fun w M => c_stream f w M.laid) fun g4 u5 M => nT <| wp_block ?_
 have hS1 := (hS.next M (nrs_cons (nr_cells _ _ (by decide)) (nrs_cons (nr_cells _ _ (by decide)) (nrs_cons (nr_cells _ _ (by decide)) nrs_nil)))).drop (L' := [⟨g1, .cells (av 1 (fun _ => .string s)) 9⟩, ⟨g4, .cells (av 16 (w32 f)) 152⟩]) (.cons_cons _ (.cons _ (.cons_cons _ .slnil)))
 refine fr_w (b := (fm ([.string s, .agg (av 16 (w32 f)), .pointer (some ⟨g1, 0, none⟩), .pointer (some ⟨g2, 0, none⟩), .string ⟨#[]⟩, .pointer (some ⟨g3, 0, none⟩)] ++ und 4 ++ [.string s, .int .i64 (s.size : Int), .tuple #[], .agg (av 16 (w32 f)), .func (.func 159) #[] #[.pointer (some ⟨g4, 0, none⟩)]] ++ und 24))) (by kernel_rfl) <| wp_range (gf := 159) (lb := #[.pointer (some ⟨g4, 0, none⟩)]) rfl (enters_of Tryz.func159 (by kernel_rfl) rfl) ?_
 intro fn
 refine (c_iterT _ _ rfl s f hz g3 g1 g4 _ _ fn (fun k_ => ([.string s, .agg (av 16 (w32 f)), .pointer (some ⟨g1, 0, none⟩), .pointer (some ⟨g2, 0, none⟩), .string ⟨#[]⟩, .pointer (some ⟨g3, 0, none⟩), undef, undef, undef, undef, .string s, .int .i64 (s.size : Int), .tuple #[], .agg (av 16 (w32 f)), .func (.func 159) #[] #[.pointer (some ⟨g4, 0, none⟩)], undef, undef, undef, undef, undef, undef, undef, undef, undef, undef, undef, undef, undef, undef, undef, undef, undef, undef, undef, undef, undef, undef, undef, undef] : List Value).getD (k_ - 0) undef) _ (by kernel_rfl) w _ hL ((hS1.alloc2 hL _ _ (nr_def _) (nr_loop _)).perm (.cons _ (.cons _ (.swap _ _ _))))).mono ?_
 rintro e w3 ⟨he, r, hr1, hr2, hS2⟩
 refine ⟨he, r, hS2.get 2 rfl, hr1, ?_⟩
 rw [hr2]
 clear M
 refine wp_exit <| au_block_exit <| au_then <| sR <| pl_callr (want_no rfl) (some 38) rfl 129 #[.pointer (some ⟨g3, 0, none⟩)] (.string (oS f s)) _ (fun _ => by kernel_rfl) (hS2.put hL 2 _ _ _ rfl (nr_loop _)).str ?_
 intro u6 hS4
 refine rV 1 <| nT <| wp_ret ?_
 refine marks_ret (v := .string (oS f s)) rfl (hS4.get 3 rfl) (fun w => results_tmp1 Tryz.results101 _ w _ (by kernel_rfl)) ⟨rfl, (hS4.put hL 3 _ _ (.deferred none) rfl (nr_def _)).bel⟩
end Go.Proofs.YtiahdbibeleakaaGreatDoor
