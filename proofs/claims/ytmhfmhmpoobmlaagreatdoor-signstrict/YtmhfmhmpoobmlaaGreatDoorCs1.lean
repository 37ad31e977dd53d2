/- Part 1 of the walks and facts behind signStrict_holds. -/
import Derived.BigQuiet
import Derived.Deep.AppendSrc
import Derived.Deep.LoopGhost
import Derived.Deep.MidRow
import Derived.Laws.AppendOwn
import Derived.Laws.Bits64
import Derived.Laws.BitsAllLaws
import Derived.Laws.BytesString
import Derived.Laws.IdiomStrings
import Derived.Laws.MakeOwn
import Derived.Laws.Rows
import Derived.LoopN
import Derived.OrdersHeld
import Derived.RegionTactic
import Derived.Shelf.Strings.Repeat
import Derived.StillTail
import Derived.Test.YtmhfmhmpoobmlaaGreatDoorProg
import Derived.Test.YtmhfmhmpoobmlaaGreatDoorRows
import Derived.WalkKit
import Derived.WalkLawsBesides
import Derived.WalkSpells
/- A region that draws its order and calls functions which make memory of their own but change none that was there: one walk in the order of the text serves every order; behind it a tail whose order is forced. -/
namespace Go.Proofs.YtmhfmhmpoobmlaaGreatDoor.Sha
open Go.RowKit

section
variable {P : Program} {ops : Array Oper} {md : Region.Mode} {C : World → Prop}

/-- For f rounds only operations below n come up, each quiet in the class; then L. -/
def HeadQ (P : Program) (md : Region.Mode) (ops : Array Oper) (C : World → Prop) (n : Nat) (L : Array Bool → Act → Prop) : Nat → Array Bool → Act → Prop
  | 0, done, a => L done a
  | f + 1, done, a => Region.ready md ops done ≠ [] ∧ ∀ i ∈ Region.ready md ops done, i < n ∧ qOp P ops C i (HeadQ P md ops C n L f (done.setIfInBounds i true)) a

theorem HeadQ.any {n g : Nat} {L : Array Bool → Act → Prop} {Q : Exit → Act → World → Prop} (hL : ∀ done a w, C w → L done a → wpAny P md ops Q g done a w) :
    ∀ (f : Nat) (done : Array Bool) (a : Act) (w : World), C w → HeadQ P md ops C n L f done a → wpAny P md ops Q (f + g) done a w := by
  intro f
  induction f with
  | zero =>
    intro done a w hw h
    rw [Nat.zero_add]
    exact hL done a w hw h
  | succ f ih =>
    intro done a w hw h
    have e : f + 1 + g = (f + g) + 1 := by omega
    rw [e]
    exact ⟨fun h0 => absurd h0 h.1, fun i hi => wpOp_of_qOp hw (fun a' w' hw' h' => ih _ a' w' hw' h') (h.2 i hi).2⟩

theorem HeadQ.first {n i : Nat} {oi : Oper} {v : Value} {L : Array Bool → Act → Prop} (hi : ops[i]? = some oi) (hsel : ∀ (j : Nat) (o : Oper) cs b, ops[j]? = some o → o.op ≠ .select cs b)
    (hs : Region.sinkB md ops n = true) (hc : Region.chainB md ops n = true) (hn : n < ops.size) (hin : i < n) (hend : ∀ done a, L done a → ∀ j ∈ Region.ready md ops done, n ≤ j) :
    ∀ (f : Nat) (done : Array Bool) (a : Act), HeadInv md ops n done →
      (∀ j oj, ops[j]? = some oj → j ≠ i → done.getD j true = false → (∀ e ∈ oj.after, Region.binds md e = true → e.on ≠ i) → oi.apart ops oj = true) →
      i ∈ Region.ready md ops done → YieldsIn P ops C oi v a → HeadQ P md ops C n L f (done.setIfInBounds i true) (a.put oi.dst v) → HeadQ P md ops C n L (f + 1) done a := by
  intro f
  induction f with
  | zero =>
    intro done a inv _ hr hy H
    refine ⟨fun h => (by rw [h] at hr; cases hr), fun j hj => ?_⟩
    have hjn : j < n := Nat.lt_of_not_le fun h => tail_waits hs hc hn inv _ i rfl hin (mem_ready.1 hr).1 j h hj
    refine ⟨hjn, ?_⟩
    by_cases hji : j = i
    · subst hji
      exact hy.qOp hi H
    · have := hend _ _ H j (ready_mono hj hji)
      omega
  | succ f ih =>
    intro done a inv hfree hr hy H
    have hun := (mem_ready.1 hr).1
    refine ⟨fun h => (by rw [h] at hr; cases hr), fun j hj => ?_⟩
    have hjn : j < n := Nat.lt_of_not_le fun h => tail_waits hs hc hn inv _ i rfl hin hun j h hj
    refine ⟨hjn, ?_⟩
    by_cases hji : j = i
    · subst hji
      exact hy.qOp hi H
    · obtain ⟨hjun, oj, hoj, hall⟩ := mem_ready.1 hj
      have hno : ∀ e ∈ oj.after, Region.binds md e = true → e.on ≠ i := by
        intro e he hb heq
        have h1 := hall e he hb
        rw [heq, getD_both hun] at h1
        cases h1
      have h2 := qOp_put hoj (hfree j oj hoj hji hjun hno) (fun cs b => hsel i oi cs b hi) (fun cs b => hsel j oj cs b hoj) hy (H.2 j (ready_mono hj hji)).2
      refine qOp_mono (fun a' h3 => ih (done.setIfInBounds j true) a' (inv.set hj hjn) ?_ (ready_mono hr (Ne.symm hji)) h3.1 ?_) h2
      · intro k ok hk hki hku hkn
        refine hfree k ok hk hki ?_ hkn
        by_cases hjk : j = k
        · subst hjk
          exact hjun
        · rw [getD_set_ne true hjk] at hku
          exact hku
      · rw [Array.setIfInBounds_comm _ _ hji]
        exact h3.2

theorem HeadQ.lex {n g : Nat} {K : Act → Prop} (hsel : Region.noSelect ops = true) (hs : Region.sinkB md ops n = true) (hc : Region.chainB md ops n = true) (hn : n < ops.size) (l : List Oper) :
    ∀ (k : Nat) (done : Array Bool) (a : Act), (∀ j, j < l.length → l[j]? = ops[k + j]?) → k + l.length = n → HeadInv md ops n done →
    Region.lexHead md ops g l.length k done = true → wpQuiet P ops C K l a → HeadQ P md ops C n (fun d a' => Region.seqB md ops g n d = true ∧ K a') l.length done a := by
  induction l with
  | nil =>
    intro k done a _ hk _ hB h
    have e : k = n := by simpa using hk
    subst e
    exact ⟨by simpa [Region.lexHead] using hB, h⟩
  | cons o l ih =>
    intro k done a hl hk inv hB h
    have h0 : ops[k]? = some o := by simpa using (hl 0 (by simp)).symm
    simp only [List.length_cons, Region.lexHead, Bool.and_eq_true] at hB
    simp only [List.length_cons] at hk
    have hr : k ∈ Region.ready md ops done := by simpa using hB.1.1
    have hq : qOp P ops C k (wpQuiet P ops C K l) a := by
      unfold qOp
      simp only [h0]
      exact h
    obtain ⟨v, hy, hK⟩ := yieldsIn_of_qOp h0 hq
    refine HeadQ.first h0 (Region.noSelect_spec hsel) hs hc hn (by omega) (fun d a' hL => seqB_ready hL.1) l.length done a inv (Region.free_spec h0 hB.1.2) hr hy ?_
    refine ih (k + 1) _ _ (fun j hj => ?_) (by omega) (inv.set hr (by omega)) hB.2 hK
    have := hl (j + 1) (by simp; omega)
    simpa [Nat.add_assoc, Nat.add_comm 1 j] using this

theorem wp_region_quiet_tail {id : Nat} {Q : Exit → Act → World → Prop} {a : Act} {w : World} {l : List Oper} (n : Nat) (hm : P.follows .mixedOrders = true) (hB : Region.lexTailB .any l.toArray n = true) (hC : C { w with drawn := w.drawn + 1 })
    (h : wpQuiet P l.toArray C (fun a' => ∀ w', C w' → wpList P l.toArray Q (l.drop n) a' w') (l.take n) a) : (Code.region id l.toArray true).wp P Q a w := by
  simp only [Region.lexTailB, Bool.and_eq_true, decide_eq_true_eq] at hB
  obtain ⟨⟨⟨⟨hsel, hn⟩, hs⟩, hc⟩, hlex⟩ := hB
  have hn' : n < l.length := by simpa using hn
  have htl : (l.take n).length = n := by simp; omega
  have hdl : (l.drop n).length = l.toArray.size - n := by simp
  have inv : HeadInv .any l.toArray n (Array.replicate l.toArray.size false) :=
    ⟨by simp, fun j oj _ hl => (by rw [getD_replicate_false] at hl; cases hl), fun t _ ht => getD_in (by simpa using ht) (getD_replicate_false _ _)⟩
  have H := HeadQ.lex (md := .any) (g := l.toArray.size - n) hsel hs hc hn (l.take n) 0 _ a (fun j hj => by rw [htl] at hj; simp [hj]) (by simpa using htl) inv (by rw [htl]; exact hlex) h
  refine wp_region_any hm ?_
  have H2 := HeadQ.any (Q := Q) (g := l.toArray.size - n) (fun done a' w' hw' hL => by
    have := wpAny_of_seq (md := .any) (Q' := Q) (l.drop n) n done a' w' (fun j => by simp [List.getElem?_drop]) (by rw [hdl]; exact hL.1) (hL.2 w' hw')
    rwa [hdl] at this) _ _ _ _ hC H
  rw [htl, show n + (l.toArray.size - n) = l.toArray.size by omega] at H2
  exact H2

/-- A world in which all that was there in W is as it was. -/
structure KW (W : World) where
  w : World
  keep : Below W.heap.size W w

def KW.next {W : World} (s : KW W) (w' : World) (h : Below s.w.heap.size s.w w') : KW W := ⟨w', s.keep.trans (h.mono s.keep.size)⟩

theorem KW.drew (W : World) : ∃ s : KW W, ({ W with drawn := W.drawn + 1 } : World) = s.w := ⟨⟨W.drew, (Below.refl _ _).drew⟩, rfl⟩

theorem keep_of {W : World} {s : KW W} {f : FuncId} {args : Array Value} {v : Value}
    (h : Calls P f args s.w fun e w' => e = .returned v ∧ Below s.w.heap.size s.w w') : Calls P f args s.w fun e w'' => e = .returned v ∧ ∃ t : KW W, w'' = t.w :=
  h.mono fun _ w' ⟨he, hb⟩ => ⟨he, s.next w' hb, rfl⟩

theorem wp_region_keep_tail {id : Nat} {Q : Exit → Act → World → Prop} {a : Act} {w : World} {l : List Oper} (n : Nat) (hm : P.follows .mixedOrders = true) (hB : Region.lexTailB .any l.toArray n = true)
    (h : wpQuiet P l.toArray (fun w' => ∃ s : KW w, w' = s.w) (fun a' => ∀ s : KW w, wpList P l.toArray Q (l.drop n) a' s.w) (l.take n) a) : (Code.region id l.toArray true).wp P Q a w := by
  refine wp_region_quiet_tail (C := fun w' => ∃ s : KW w, w' = s.w) n hm hB (KW.drew w) ?_
  have e : (fun a' => ∀ w', (∃ s : KW w, w' = s.w) → wpList P l.toArray Q (l.drop n) a' w') = fun a' => ∀ s : KW w, wpList P l.toArray Q (l.drop n) a' s.w := by
    funext a'
    exact propext ⟨fun h s => h _ ⟨s, rfl⟩, fun h w' ⟨s, hs⟩ => hs ▸ h s⟩
  rw [e]
  exact h

end
end Go.Proofs.YtmhfmhmpoobmlaaGreatDoor.Sha

/- A region that draws its order, whose calls make memory of their own, and that makes one variable at a time that is left open: one walk in the order of the text serves every order. -/
namespace Go.Proofs.YtmhfmhmpoobmlaaGreatDoor.Sha
open Go.RowKit

section
variable {P : Program} {ops : Array Oper} {md : Region.Mode} {W : World} {n : Nat}

/-- What one operation may come to in the world w: the value v in that very world; or a call that hands back v and changes nothing that was there. -/
def keepUpon (P : Program) (w : World) (v : Value) : Result Next → Prop
  | .ok (.value u) w' => w' = w ∧ u = v
  | .ok .skip w' => w' = w ∧ v = undef
  | .ok (.enter f args) w' => w' = w ∧ Calls P f args w (fun e w'' => e = .returned v ∧ Below w.heap.size w w'')
  | _ => False

def keepAt (P : Program) (o : Oper) (a : Act) (w : World) (v : Value) : Prop := keepUpon P w v ((execOp a.eval o).run P w)

def keepOp (P : Program) (o : Oper) (a : Act) (W : World) (K : Act → Prop) : Prop := ∃ v, (∀ s : KW W, keepAt P o a s.w v) ∧ K (a.put o.dst v)

/-- The walk in the order of the text. -/
def wpK (P : Program) (ops : Array Oper) (W : World) (Q : Act → Prop) : List Oper → Act → Prop
  | [], a => Q a
  | o :: rest, a => if Region.wanted o (yielded ops a.tmps) then keepOp P o a W (wpK P ops W Q rest) else wpK P ops W Q rest (a.put o.dst undef)

end
end Go.Proofs.YtmhfmhmpoobmlaaGreatDoor.Sha

/- Cells that are stored one behind the other. -/
namespace Go.Proofs.YtmhfmhmpoobmlaaGreatDoor.Sha
open Go.RowKit

def setAll (cs : Array Value) : Nat → List Value → Array Value
  | _, [] => cs
  | o, v :: vs => setAll (cs.setIfInBounds o v) (o + 1) vs

theorem setAll_get (vs : List Value) : ∀ (cs : Array Value) (o i : Nat), o + vs.length ≤ cs.size → (setAll cs o vs)[i]? = if o ≤ i ∧ i < o + vs.length then vs[i - o]? else cs[i]? := by
  induction vs with
  | nil =>
    intro cs o i _
    simp only [setAll, List.length_nil]
    rw [if_neg (by omega)]
  | cons v vs ih =>
    intro cs o i h
    simp only [List.length_cons] at h
    simp only [setAll, List.length_cons]
    rw [ih _ _ _ (by simp; omega)]
    by_cases h1 : o + 1 ≤ i ∧ i < o + 1 + vs.length
    · rw [if_pos h1, if_pos (by omega), show i - o = (i - (o + 1)) + 1 by omega, List.getElem?_cons_succ]
    · rw [if_neg h1]
      by_cases h2 : i = o
      · subst h2
        rw [if_pos (by omega), Nat.sub_self, Array.getElem?_setIfInBounds]
        simp
        omega
      · rw [if_neg (by omega), Array.getElem?_setIfInBounds_ne (by omega)]

theorem heap_setCells (g : Nat) (T : TypeId) (vs : List Value) : ∀ (W : World) (cs : Array Value) (o : Nat), W.heap[g]? = some (.cells cs T (0, 0)) → (W.setCells g o vs).heap[g]? = some (.cells (setAll cs o vs) T (0, 0)) := by
  induction vs with
  | nil => intro W cs o h; exact h
  | cons v vs ih =>
    intro W cs o h
    exact ih _ _ _ (heap_setCell_same W g o cs T v h)

end Go.Proofs.YtmhfmhmpoobmlaaGreatDoor.Sha

/- A region that draws its order, walked operation by operation in every order; what it leaves is said once. -/
namespace Go.Proofs.YtmhfmhmpoobmlaaGreatDoor.Sha
open Go.RowKit

section
variable {P : Program} {ops : Array Oper} {md : Region.Mode} {Q : Exit → Act → World → Prop}

theorem op_load_row {o : Oper} {a : Act} {w : World} {K : Act → World → Prop} (ty : TypeId) (x : Operand) (ho : o.op = .load ty x) (g : Nat) (hx : a.eval x = .pointer (some ⟨g, 0, none⟩)) (t : TypeId) (cs : Array Value) (fr : Nat × Nat) (d : TypeDesc)
    (hg : w.heap[g]? = some (.cells cs t fr)) (hu : P.underlying ty = some d) (hd : (match d with | .struct _ | .array _ _ => true | _ => false) = true) (hi : (P.info? ty).map (·.size) = some cs.size)
    (hk : K (a.put o.dst (.agg cs)) w) : o.wp P a w K Q := by
  unfold Oper.wp execOp
  simp only [ho, hx, Instr.loadAt, Instr.sureAddr, Sem.run_bind, Sem.run_pure, Result.andThen_ok, run_loadVar_row w g t ty cs fr d hg hu hd hi]
  exact hk

theorem results_cell_tmp {fn : Func} {p s : Tmp} {ty : TypeId} (h : fn.results = #[.cell p ty, .tmp s]) (tmps : Array Value) (w : World) (g : Nat) (t : TypeId) (cs : Array Value) (fr : Nat × Nat) (d : TypeDesc) (v : Value)
    (hp : tmps.getD p undef = .pointer (some ⟨g, 0, none⟩)) (hs : tmps.getD s undef = v) (hg : w.heap[g]? = some (.cells cs t fr))
    (hu : P.underlying ty = some d) (hd : (match d with | .struct _ | .array _ _ => true | _ => false) = true) (hi : (P.info? ty).map (·.size) = some cs.size) :
    (results fn tmps).run P w = .ok (.tuple #[.agg cs, v]) w := by
  have hp' : tmps[p]?.getD undef = .pointer (some ⟨g, 0, none⟩) := by simpa using hp
  have hs' : tmps[s]?.getD undef = v := by simpa using hs
  simp [results, h, hp', hs', asAddr, run_loadVar_row w g t ty cs fr d hg hu hd hi]

end
end Go.Proofs.YtmhfmhmpoobmlaaGreatDoor.Sha

/- The steps of a walk that a program types: which blocks are there and what they hold is one list; cells of any kind; a block that was there ahead of the call may be changed; what a package's variable holds. -/
namespace Go.Proofs.YtmhfmhmpoobmlaaGreatDoor.Sha
open Go.RowKit

/-- n cells, told by a function of the place. -/
def av (n : Nat) (F : Nat → Value) : Array Value := ((List.range n).map F).toArray
def w64 (f : Nat → Int) : Nat → Value := fun i => .int .u64 (f i)
def w8 (f : Nat → Int) : Nat → Value := fun i => .int .u8 (f i)
theorem av_size (n : Nat) (F : Nat → Value) : (av n F).size = n := by simp [av]
theorem av_get (n : Nat) (F : Nat → Value) (i : Nat) (h : i < n) : (av n F)[i]? = some (F i) := by simp [av, h]
theorem av_congr {n : Nat} {F G : Nat → Value} (h : ∀ i, i < n → F i = G i) : av n F = av n G := by
  unfold av
  congr 1
  exact List.map_congr_left fun i hi => h i (List.mem_range.1 hi)
def upd {α : Type} (f : Nat → α) (k : Nat) (v : α) : Nat → α := fun i => if i = k then v else f i
theorem av_set (n : Nat) (F : Nat → Value) (k : Nat) (v : Value) : (av n F).setIfInBounds k v = av n (upd F k v) := by
  apply Array.ext_getElem?
  intro i
  by_cases hi : i < n
  · rw [Array.getElem?_setIfInBounds, av_get n (upd F k v) i hi]
    by_cases hk : k = i
    · subst hk
      rw [if_pos rfl, if_pos (by rw [av_size]; exact hi)]
      simp [upd]
    · have : ¬ i = k := fun h => hk h.symm
      rw [if_neg hk, av_get n F i hi]
      simp [upd, this]
  · rw [Array.getElem?_eq_none (by simp [av_size]; omega), Array.getElem?_eq_none (by simp [av_size]; omega)]

/-- A block and what it holds. -/
structure Blk where
  g : Nat
  Z : Obj

/-- Where a call began: the world, and the block of it that may be changed. -/
structure Ctx where
  w : World
  r : List Nat

/-- What the package's variable holds: block 0. -/
def KF : Nat → Int := fun i => ([4794697086780616226, 8158064640168781261, 13096744586834688815, 16840607885511220156, 4131703408338449720, 6480981068601479193, 10538285296894168987, 12329834152419229976, 15566598209576043074, 1334009975649890238, 2608012711638119052, 6128411473006802146, 8268148722764581231, 9286055187155687089, 11230858885718282805, 13951009754708518548, 16472876342353939154, 17275323862435702243, 1135362057144423861, 2597628984639134821, 3308224258029322869, 5365058923640841347, 6679025012923562964, 8573033837759648693, 10970295158949994411, 12119686244451234320, 12683024718118986047, 13788192230050041572, 14330467153632333762, 15395433587784984357, 489312712824947311, 1452737877330783856, 2861767655752347644, 3322285676063803686, 5560940570517711597, 5996557281743188959, 7280758554555802590, 8532644243296465576, 9350256976987008742, 10552545826968843579, 11727347734174303076, 12113106623233404929, 14000437183269869457, 14369950271660146224, 15101387698204529176, 15463397548674623760, 17586052441742319658, 1182934255886127544, 1847814050463011016, 2177327727835720531, 2830643537854262169, 3796741975233480872, 4115178125766777443, 5681478168544905931, 6601373596472566643, 7507060721942968483, 8399075790359081724, 8693463985226723168, 9568029438360202098, 10144078919501101548, 10430055236837252648, 11840083180663258601, 13761210420658862357, 14299343276471374635, 14566680578165727644, 15097957966210449927, 16922976911328602910, 17689382322260857208, 500013540394364858, 748580250866718886, 1242879168328830382, 1977374033974150939, 2944078676154940804, 3659926193048069267, 4368137639120453308, 4836135668995329356, 5532061633213252278, 6448918945643986474, 6902733635092675308, 7801388544844847127] : List Int).getD i 0
def Laid (w : World) : Prop := ∀ i, i < 80 → w.cell? ⟨0, i, none⟩ = some (.int .u64 (KF i))
/-- Only these blocks have changed. -/
structure Grw (w w' : World) (r : List Nat) : Prop where
  os : w'.os = w.os
  tape : w'.tape = w.tape
  output : w'.output = w.output
  size : w.heap.size ≤ w'.heap.size
  block : ∀ k, k < w.heap.size → k ∉ r → w'.heap[k]? = w.heap[k]?
theorem Laid.lt {w : World} (h : Laid w) : 0 < w.heap.size := by
  refine Classical.byContradiction fun hn => ?_
  have h0 := h 0 (by decide)
  have : w.heap[0]? = none := Array.getElem?_eq_none (by omega)
  simp [World.cell?, this] at h0

theorem Laid.of {w w' : World} (h : Laid w) (e : w'.heap[0]? = w.heap[0]?) : Laid w' := fun i hi => by
  rw [← h i hi]
  unfold World.cell?
  simp only
  rw [e]

theorem grown_refl (w : World) (r : List Nat) : Grw w w r := ⟨rfl, rfl, rfl, Nat.le_refl _, fun _ _ _ => rfl⟩
theorem below_grown {w w' : World} (h : Grw w w' []) : Below w.heap.size w w' := ⟨h.os, h.tape, h.output, h.size, fun k hk => h.block k hk (by simp)⟩

/-- Only what may be changed has changed; these blocks are there, no two of them one. -/
structure Mem (c : Ctx) (L : List Blk) (W : World) : Prop where
  old : Grw c.w W c.r
  at_ : ∀ b ∈ L, W.heap[b.g]? = some b.Z
  ge : ∀ b ∈ L, c.w.heap.size ≤ b.g ∨ b.g ∈ c.r
  nodup : (L.map Blk.g).Nodup
  lay : Laid c.w
  ne : 0 ∉ c.r

theorem Mem.start {w : World} (h : Laid w) : Mem ⟨w, []⟩ [] w := ⟨grown_refl _ _, by simp, by simp, by simp, h, by simp⟩
theorem Mem.startp {w : World} (h : Laid w) {g : Nat} {Z : Obj} (hg : w.heap[g]? = some Z) (h0 : g ≠ 0) : Mem ⟨w, [g]⟩ [⟨g, Z⟩] w := ⟨grown_refl _ _, by simpa using hg, by simp, by simp, h, by simpa using fun e => h0 e.symm⟩
theorem Mem.laid {c : Ctx} {W : World} {L : List Blk} (M : Mem c L W) : Laid W := M.lay.of (M.old.block 0 M.lay.lt M.ne)

theorem Mem.lt {c : Ctx} {W : World} {L : List Blk} (M : Mem c L W) {b : Blk} (hb : b ∈ L) : b.g < W.heap.size := by
  have h := M.at_ b hb
  exact (Array.getElem?_eq_some_iff.1 h).1

theorem grown_keep {c : Ctx} {W W' : World} (ho : Grw c.w W c.r) (h : Below W.heap.size W W') : Grw c.w W' c.r :=
  ⟨h.os.trans ho.os, h.tape.trans ho.tape, h.output.trans ho.output, Nat.le_trans ho.size h.size, fun k hk hr => (h.block k (Nat.lt_of_lt_of_le hk ho.size)).trans (ho.block k hk hr)⟩

theorem Mem.keep {c : Ctx} {W W' : World} {L : List Blk} (M : Mem c L W) (h : Below W.heap.size W W') : Mem c L W' where
  old := grown_keep M.old h
  at_ := fun b hb => by rw [h.block _ (M.lt hb)]; exact M.at_ b hb
  ge := M.ge
  nodup := M.nodup
  lay := M.lay
  ne := M.ne

theorem Mem.news {c : Ctx} {W W' : World} {L N : List Blk} (M : Mem c L W) (h : Below W.heap.size W W') (hat : ∀ b ∈ N, W'.heap[b.g]? = some b.Z) (hge : ∀ b ∈ N, W.heap.size ≤ b.g) (hnd : (N.map Blk.g).Nodup) : Mem c (L ++ N) W' where
  old := grown_keep M.old h
  at_ := fun b hb => by
    rcases List.mem_append.1 hb with hb | hb
    · rw [h.block _ (M.lt hb)]; exact M.at_ b hb
    · exact hat b hb
  ge := fun b hb => by
    rcases List.mem_append.1 hb with hb | hb
    · exact M.ge b hb
    · exact .inl (Nat.le_trans M.old.size (hge b hb))
  nodup := by
    rw [List.map_append, List.nodup_append]
    refine ⟨M.nodup, hnd, fun x hx y hy e => ?_⟩
    obtain ⟨b, hb, rfl⟩ := List.mem_map.1 hx
    obtain ⟨d, hd, rfl⟩ := List.mem_map.1 hy
    have h1 := M.lt hb
    have h2 := hge d hd
    omega
  lay := M.lay
  ne := M.ne

theorem Mem.new {c : Ctx} {W W' : World} {L : List Blk} (M : Mem c L W) (g : Nat) (Z : Obj) (h : Below W.heap.size W W') (hat : W'.heap[g]? = some Z) (hge : W.heap.size ≤ g) : Mem c (L ++ [⟨g, Z⟩]) W' :=
  M.news h (by simpa using hat) (by simpa using hge) (by simp)

theorem Mem.drop {c : Ctx} {W : World} {L L' : List Blk} (M : Mem c L W) (h : L'.Sublist L) : Mem c L' W where
  old := M.old
  at_ := fun b hb => M.at_ b (h.subset hb)
  ge := fun b hb => M.ge b (h.subset hb)
  nodup := M.nodup.sublist (h.map _)
  lay := M.lay
  ne := M.ne
theorem Mem.drew {c : Ctx} {W : World} {L : List Blk} (M : Mem c L W) : Mem c L W.drew := M.keep ((Below.refl _ _).drew)

theorem nodup_ne {α : Type} {l : List α} (h : l.Nodup) {i j : Nat} (hij : i < j) (hj : j < l.length) : l[i]? ≠ l[j]? := by
  have h1 := List.pairwise_iff_getElem.1 h i j (by omega) hj hij
  rw [List.getElem?_eq_getElem (by omega), List.getElem?_eq_getElem hj]
  exact fun e => h1 (Option.some.inj e)
theorem nodup_at {L : List Blk} (h : (L.map Blk.g).Nodup) {i j : Nat} {b c : Blk} (hi : L[i]? = some b) (hj : L[j]? = some c) (hij : i ≠ j) : b.g ≠ c.g := by
  intro e
  have h1 := List.getElem?_eq_some_iff.1 hi
  have h2 := List.getElem?_eq_some_iff.1 hj
  obtain ⟨l1, e1⟩ := h1
  obtain ⟨l2, e2⟩ := h2
  rcases Nat.lt_or_gt_of_ne hij with hlt | hlt
  · refine nodup_ne h hlt (by simpa using l2) ?_
    simp [hi, hj, e]
  · refine nodup_ne h hlt (by simpa using l1) ?_
    simp [hi, hj, e]

/-- Block i is changed, and none else. -/
theorem Mem.put {c : Ctx} {W W' : World} {L : List Blk} (M : Mem c L W) (i : Nat) (b : Blk) (hi : L[i]? = some b) (Z : Obj) (hu : Grw W W' [b.g]) (hz : W'.heap[b.g]? = some Z) : Mem c (L.set i ⟨b.g, Z⟩) W' where
  old := ⟨hu.os.trans M.old.os, hu.tape.trans M.old.tape, hu.output.trans M.old.output, Nat.le_trans M.old.size hu.size, fun k hk hr => by
    have hg := M.ge b (List.mem_of_getElem? hi)
    refine (hu.block k (Nat.lt_of_lt_of_le hk M.old.size) fun e => ?_).trans (M.old.block k hk hr)
    obtain rfl := List.mem_singleton.1 e
    rcases hg with hg | hg
    · omega
    · exact hr hg⟩
  at_ := fun d hd => by
    obtain ⟨j, hj⟩ := List.mem_iff_getElem?.1 hd
    rw [List.getElem?_set] at hj
    by_cases hij : i = j
    · subst hij
      rw [if_pos rfl] at hj
      split at hj
      · cases hj
        exact hz
      · cases hj
    · rw [if_neg hij] at hj
      have hm := List.mem_of_getElem? hj
      rw [hu.block _ (M.lt hm) (fun e => nodup_at M.nodup hj hi (Ne.symm hij) (List.mem_singleton.1 e))]
      exact M.at_ d hm
  ge := fun d hd => by
    obtain ⟨j, hj⟩ := List.mem_iff_getElem?.1 hd
    rw [List.getElem?_set] at hj
    by_cases hij : i = j
    · subst hij
      rw [if_pos rfl] at hj
      split at hj
      · cases hj
        exact M.ge b (List.mem_of_getElem? hi)
      · cases hj
    · rw [if_neg hij] at hj
      exact M.ge d (List.mem_of_getElem? hj)
  nodup := by
    have e : (L.set i ⟨b.g, Z⟩).map Blk.g = L.map Blk.g := by
      apply List.ext_getElem?
      intro j
      simp only [List.getElem?_map, List.getElem?_set]
      by_cases hij : i = j
      · subst hij
        rw [if_pos rfl, hi]
        have := (List.getElem?_eq_some_iff.1 hi).1
        simp [this]
      · rw [if_neg hij]
    rw [e]
    exact M.nodup
  lay := M.lay
  ne := M.ne

theorem Mem.get {c : Ctx} {W : World} {L : List Blk} (M : Mem c L W) (i : Nat) {g : Nat} {Z : Obj} (hi : L[i]? = some ⟨g, Z⟩) : W.heap[g]? = some Z := M.at_ _ (List.mem_of_getElem? hi)
theorem Mem.ne0 {c : Ctx} {W : World} {L : List Blk} (M : Mem c L W) (i : Nat) {g : Nat} {Z : Obj} (hi : L[i]? = some ⟨g, Z⟩)  : g ≠ 0 := fun e => by
  subst e
  rcases M.ge _ (List.mem_of_getElem? hi) with h | h
  · have := M.lay.lt
    simp only at h
    omega
  · exact M.ne h

theorem grown_trans {w1 w2 w3 : World} {r : List Nat} (h : Grw w1 w2 r) (k : Grw w2 w3 r) : Grw w1 w3 r := ⟨k.os.trans h.os, k.tape.trans h.tape, k.output.trans h.output, Nat.le_trans h.size k.size, fun j hj hr => (k.block j (Nat.lt_of_lt_of_le hj h.size) hr).trans (h.block j hj hr)⟩
theorem grown_setCell (W : World) (g o : Nat) (v : Value) : Grw W (W.setCell ⟨g, o, none⟩ v) [g] :=
  ⟨rfl, rfl, rfl, by simp, fun k _ hr => Below.heap_setCell _ _ _ _ (fun e => hr (by rw [e]; exact List.mem_singleton.2 rfl))⟩
theorem grown_setCells (g : Nat) (vs : List Value) : ∀ (W : World) (o : Nat), Grw W (W.setCells g o vs) [g] := by
  induction vs with
  | nil => intro W o; exact grown_refl _ _
  | cons v vs ih => intro W o; exact grown_trans (grown_setCell W g o v) (ih _ _)

/-- The cells of a block. -/
theorem cell_av {W : World} {g n T : Nat} {F : Nat → Value} {fr : Nat × Nat} (h : W.heap[g]? = some (.cells (av n F) T fr)) {i : Nat} (hi : i < n) : W.cell? ⟨g, i, none⟩ = some (F i) := by
  unfold World.cell?
  rw [h]
  simpa using av_get n F i hi
theorem free_av {W : World} {g n T : Nat} {F : Nat → Value} (h : W.heap[g]? = some (.cells (av n F) T (0, 0))) (i : Nat) : W.frozen? ⟨g, i, none⟩ = false := by
  unfold World.frozen?
  rw [h]
  simp
theorem av_toList_get (n : Nat) (F : Nat → Value) (j : Nat) (v : Value) (h : (av n F).toList[j]? = some v) : j < n ∧ v = F j := by
  have hj : j < n := by
    have := (List.getElem?_eq_some_iff.1 h).1
    simpa [av_size] using this
  refine ⟨hj, ?_⟩
  have h2 := av_get n F j hj
  rw [Array.getElem?_toList] at h
  rw [h2] at h
  exact (Option.some.inj h).symm
theorem range_av {W : World} {g n T : Nat} {F : Nat → Value} {fr : Nat × Nat} (h : W.heap[g]? = some (.cells (av n F) T fr)) (o k : Nat) (F' : Nat → Value) (hok : o + k ≤ n) (he : ∀ i, i < k → F (o + i) = F' i) : W.rangeAt g o (av k F').toList := by
  intro j v hv
  obtain ⟨hj, rfl⟩ := av_toList_get k F' j v hv
  rw [cell_av h (by omega), he j hj]
theorem there_av {W : World} {g n T : Nat} {F : Nat → Value} (h : W.heap[g]? = some (.cells (av n F) T (0, 0))) (o k : Nat) (hk : o + k ≤ n) : W.there g o k := fun j hj => by
  rw [cell_av h (by omega)]
  exact ⟨rfl, free_av h _⟩
theorem setAll_av (n : Nat) (F F' Fn : Nat → Value) (off k : Nat) (hk : off + k ≤ n) (hfn : ∀ j, j < n → (if off ≤ j ∧ j < off + k then F' (j - off) else F j) = Fn j) : setAll (av n F) off (av k F').toList = av n Fn := by
  have hlen : (av k F').toList.length = k := by simp [av_size]
  apply Array.ext_getElem?
  intro i
  rw [setAll_get _ _ _ _ (by rw [hlen, av_size]; exact hk), hlen]
  by_cases hi : i < n
  · rw [av_get n Fn i hi, ← hfn i hi]
    by_cases h : off ≤ i ∧ i < off + k
    · rw [if_pos h, if_pos h, Array.getElem?_toList, av_get k F' _ (by omega)]
    · rw [if_neg h, if_neg h, av_get n F i hi]
  · rw [if_neg (by omega), Array.getElem?_eq_none (by rw [av_size]; omega), Array.getElem?_eq_none (by rw [av_size]; omega)]
theorem av_one (n : Nat) (F : Nat → Value) (h : ∀ i, i < n → (F i).oneCell' = true) : (av n F).all (·.oneCell') = true := by
  rw [Array.all_eq_true]
  intro i hi
  have hi' : i < n := by rw [av_size] at hi; exact hi
  have h2 := av_get n F i hi'
  rw [Array.getElem?_eq_getElem hi] at h2
  rw [Option.some.inj h2]
  exact h i hi'

/-- The walk of a list of operations, under a name that is not laid open. -/
structure PL (P : Program) (ops : Array Oper) (Q : Exit → Act → World → Prop) (l : List Oper) (a : Act) (w : World) : Prop where
  out : wpList P ops Q l a w
structure KL (P : Program) (ops : Array Oper) (W : World) (Q : Act → Prop) (l : List Oper) (a : Act) : Prop where
  out : wpK P ops W Q l a

section
variable {P : Program} {ops : Array Oper} {rest : List Oper} {o : Oper} {a : Act} {w : World} {c : Ctx} {L : List Blk} {Q : Exit → Act → World → Prop} {K : Act → World → Prop}

theorem rg_lit {id : Nat} {l : List Oper} (h : PL P l.toArray Q l a w) : (Code.region id l.toArray false).wp P Q a w := wp_region_lit h.out
theorem pl_nil (h : Q .normal a w) : PL P ops Q [] a w := ⟨h⟩

theorem want_no (hg : o.guard = none) : Region.wanted o (yielded ops a.tmps) = true := by
  unfold Region.wanted
  rw [hg]
def boolOf : Value → Option Bool
  | .bool b => some b
  | _ => none
theorem yielded_at (j : Nat) (t : Tmp) (hd : (ops.toList[j]?).bind (·.dst) = some t) (v : Value) (hv : a.eval (.tmp t) = v) : yielded ops a.tmps j = boolOf v := by
  have hd' : (ops[j]?).bind (·.dst) = some t := by rw [← Array.getElem?_toList]; exact hd
  have e : a.tmps[t]?.getD undef = v := by rw [← hv]; simp [Act.eval]
  unfold yielded
  rw [hd']
  simp only [Option.bind_some]
  cases h : a.tmps[t]? with
  | none =>
    rw [h] at e
    rw [← e]
    rfl
  | some u =>
    rw [h] at e
    rw [← e]
    cases u <;> rfl
theorem want_on (j : Nat) (b : Bool) (hg : o.guard = some (j, b)) (t : Tmp) (hd : (ops.toList[j]?).bind (·.dst) = some t) (hv : a.eval (.tmp t) = .bool b) : Region.wanted o (yielded ops a.tmps) = true := by
  unfold Region.wanted
  rw [hg]
  simp only
  rw [yielded_at j t hd _ hv]
  simp [boolOf]
theorem want_off (j : Nat) (b : Bool) (hg : o.guard = some (j, b)) (t : Tmp) (hd : (ops.toList[j]?).bind (·.dst) = some t) (hv : a.eval (.tmp t) = .bool (!b)) : Region.wanted o (yielded ops a.tmps) = false := by
  unfold Region.wanted
  rw [hg]
  simp only
  rw [yielded_at j t hd _ hv]
  cases b <;> rfl
theorem au_then (h : K a w) : Exit.then K Q .normal a w := h
theorem au_then_ret (h : Q .ret a w) : Exit.then K Q .ret a w := h
theorem au_then_exit {i : Nat} (h : Q (.exit i) a w) : Exit.then K Q (.exit i) a w := h
theorem au_block {id : Nat} (h : Q .normal a w) : Exit.inBlock id Q .normal a w := h
theorem au_block_exit {id : Nat} (h : Q .normal a w) : Exit.inBlock id Q (.exit id) a w := by
  show (if id = id then Q .normal a w else Q (.exit id) a w)
  rw [if_pos rfl]
  exact h

theorem pl_to (hw : Region.wanted o (yielded ops a.tmps) = true) (d : Option Tmp) (hd : o.dst = d) (v : Value) (w' : World) (hrun : (execOp a.eval o).run P w = .ok (.value v) w')
    (h : PL P ops Q rest (a.put d v) w') : PL P ops Q (o :: rest) a w :=
  ⟨Go.BigFrame.wpList_want hw fun _ hK => by
    unfold Oper.wp
    rw [hrun]
    subst hd
    exact hK _ _ h.out⟩

theorem pl_val (hw : Region.wanted o (yielded ops a.tmps) = true) (d : Option Tmp) (hd : o.dst = d) (v : Value) (hrun : ∀ w, (execOp a.eval o).run P w = .ok (.value v) w)
    (h : PL P ops Q rest (a.put d v) w) : PL P ops Q (o :: rest) a w := pl_to hw d hd v w (hrun w) h

theorem pl_skip (hw : Region.wanted o (yielded ops a.tmps) = false) (d : Option Tmp) (hd : o.dst = d) (h : PL P ops Q rest (a.put d undef) w) : PL P ops Q (o :: rest) a w := by
  subst hd
  exact ⟨wpList_skip hw h.out⟩

theorem new_below (W : World) (o : Obj) : Below W.heap.size W (W.alloc o) := (Below.refl _ _).alloc (Nat.le_refl _) _

/-- A new block; the value tells where it is. -/
theorem pl_mk (M : Mem c L w) (hw : Region.wanted o (yielded ops a.tmps) = true) (d : Option Tmp) (hd : o.dst = d) (v : Nat → Value) (Z : Obj) (hrun : ∀ w, (execOp a.eval o).run P w = .ok (.value (v w.heap.size)) (w.alloc Z))
    (h : ∀ g w', Mem c (L ++ [⟨g, Z⟩]) w' → PL P ops Q rest (a.put d (v g)) w') : PL P ops Q (o :: rest) a w :=
  pl_to hw d hd _ _ (hrun w) (h w.heap.size (w.alloc Z) (M.new _ Z (new_below w Z) (heap_alloc_new w Z) (Nat.le_refl _)))

theorem pl_new (M : Mem c L w) (hw : Region.wanted o (yielded ops a.tmps) = true) (d : Option Tmp) (hd : o.dst = d) (Z : Obj) (hrun : ∀ w, (execOp a.eval o).run P w = .ok (.value (.pointer (some ⟨w.heap.size, 0, none⟩))) (w.alloc Z))
    (h : ∀ g w', Mem c (L ++ [⟨g, Z⟩]) w' → PL P ops Q rest (a.put d (.pointer (some ⟨g, 0, none⟩))) w') : PL P ops Q (o :: rest) a w :=
  pl_mk M hw d hd (fun g => .pointer (some ⟨g, 0, none⟩)) Z hrun h

theorem pl_callq (hw : Region.wanted o (yielded ops a.tmps) = true) (d : Option Tmp) (hd : o.dst = d) (f : FuncId) (args : Array Value) (hrun : ∀ w, (execOp a.eval o).run P w = .ok (.enter f args) w)
    (hc : Calls P f args w fun e w' => ∃ v, e = .returned v ∧ PL P ops Q rest (a.put d v) w') : PL P ops Q (o :: rest) a w :=
  ⟨Go.BigFrame.wpList_want hw fun _ hK => by
    unfold Oper.wp
    rw [hrun]
    subst hd
    exact hc.mono fun e w' ⟨v, he, hb⟩ => by subst he; exact hK _ _ hb.out⟩

/-- A call that changes nothing that is there. -/
theorem pl_call (M : Mem c L w) (hw : Region.wanted o (yielded ops a.tmps) = true) (d : Option Tmp) (hd : o.dst = d) (f : FuncId) (args : Array Value) (v : Value) (hrun : ∀ w, (execOp a.eval o).run P w = .ok (.enter f args) w)
    (hc : ∀ w, Mem c L w → Calls P f args w fun e w' => e = .returned v ∧ Below w.heap.size w w') (h : ∀ w', Mem c L w' → PL P ops Q rest (a.put d v) w') : PL P ops Q (o :: rest) a w :=
  pl_callq hw d hd f args hrun ((hc w M).mono fun _ w' ⟨he, hb⟩ => ⟨v, he, h w' (M.keep hb)⟩)

/-- A call that makes a block and tells where it is. -/
theorem pl_calln (M : Mem c L w) (hw : Region.wanted o (yielded ops a.tmps) = true) (d : Option Tmp) (hd : o.dst = d) (f : FuncId) (args : Array Value) (v : Nat → Value) (Z : Obj) (hrun : ∀ w, (execOp a.eval o).run P w = .ok (.enter f args) w)
    (hc : ∀ w, Mem c L w → Calls P f args w fun e w' => ∃ g, e = .returned (v g) ∧ w.heap.size ≤ g ∧ w'.heap[g]? = some Z ∧ Below w.heap.size w w') (h : ∀ g w', Mem c (L ++ [⟨g, Z⟩]) w' → PL P ops Q rest (a.put d (v g)) w') : PL P ops Q (o :: rest) a w :=
  pl_callq hw d hd f args hrun ((hc w M).mono fun _ w' ⟨g, he, h1, h2, hb⟩ => ⟨v g, he, h g w' (M.new g Z hb h2 h1)⟩)

/-- A call that changes one block. -/
theorem pl_callp (M : Mem c L w) (hw : Region.wanted o (yielded ops a.tmps) = true) (d : Option Tmp) (hd : o.dst = d) (f : FuncId) (args : Array Value) (v : Value) (i g : Nat) (Z Z' : Obj) (hi : L[i]? = some ⟨g, Z⟩) (hrun : ∀ w, (execOp a.eval o).run P w = .ok (.enter f args) w)
    (hc : ∀ w, Mem c L w → Calls P f args w fun e w' => e = .returned v ∧ Grw w w' [g] ∧ w'.heap[g]? = some Z') (h : ∀ w', Mem c (L.set i ⟨g, Z'⟩) w' → PL P ops Q rest (a.put d v) w') : PL P ops Q (o :: rest) a w :=
  pl_callq hw d hd f args hrun ((hc w M).mono fun _ w' ⟨he, h1, h2⟩ => ⟨v, he, h w' (M.put i ⟨g, Z⟩ hi Z' h1 h2)⟩)

theorem pl_load (M : Mem c L w) (hw : Region.wanted o (yielded ops a.tmps) = true) (d : Option Tmp) (hd : o.dst = d) (ty : TypeId) (x : Operand) (ho : o.op = .load ty x) (i g off : Nat) (hx : a.eval x = .pointer (some ⟨g, off, none⟩)) (n T : Nat) (F : Nat → Value) (hi : L[i]? = some ⟨g, .cells (av n F) T⟩)
    (k : Nat) (F' : Nat → Value) (hp : ∀ j, j < k → F (off + j) = F' j) (hk : off + k ≤ n) (t : TypeDesc) (hu : P.underlying ty = some t) (ht : t.isRow = true) (hz : (P.info? ty).map (·.size) = some k)
    (h : PL P ops Q rest (a.put d (.agg (av k F'))) w) : PL P ops Q (o :: rest) a w := by
  refine pl_to hw d hd (.agg (av k F')) w ?_ h
  unfold execOp
  have hl := run_loadAt_mid (P := P) w g off ty (av k F').toList t (range_av (M.get i hi) off k F' hk hp) hu ht (by rw [hz]; simp [av_size])
  simp only [ho, hx, Sem.run_bind, hl, Result.andThen_ok, Sem.run_pure, Array.toArray_toList]

theorem run_cell {w : World} {g k : Nat} {v : Value} (hc : w.cell? ⟨g, k, none⟩ = some v) (ty : TypeId) (hag : ∀ w, (isAgg ty).run P w = .ok false w) : (Instr.loadAt ty (.pointer (some ⟨g, k, none⟩))).run P w = .ok v w := by
  simp [Instr.loadAt, Instr.sureAddr, loadVar, hag, hc]

/-- One cell. -/
theorem pl_cell (M : Mem c L w) (hw : Region.wanted o (yielded ops a.tmps) = true) (d : Option Tmp) (hd : o.dst = d) (ty : TypeId) (x : Operand) (ho : o.op = .load ty x) (g off : Nat) (hx : a.eval x = .pointer (some ⟨g, off, none⟩)) (v : Value) (hag : ∀ w, (isAgg ty).run P w = .ok false w) (hc : ∀ w, Mem c L w → w.cell? ⟨g, off, none⟩ = some v)
    (h : PL P ops Q rest (a.put d v) w) : PL P ops Q (o :: rest) a w := by
  refine pl_to hw d hd v w ?_ h
  have hr := run_cell (P := P) (hc w M) ty hag
  unfold execOp
  simp only [ho, hx, Sem.run_bind, hr, Result.andThen_ok, Sem.run_pure]

theorem Mem.cell {W : World} (M : Mem c L W) (i : Nat) {g n T : Nat} {F : Nat → Value} (hi : L[i]? = some ⟨g, .cells (av n F) T⟩) {k : Nat} (hk : k < n) {v : Value} (hv : F k = v) : W.cell? ⟨g, k, none⟩ = some v := by
  rw [cell_av (M.get i hi) hk, hv]

theorem pl_put (M : Mem c L w) (hw : Region.wanted o (yielded ops a.tmps) = true) (hd : o.dst = none) (ty : TypeId) (x y : Operand) (ho : o.op = .store ty x y) (i g off : Nat) (hx : a.eval x = .pointer (some ⟨g, off, none⟩)) (n T : Nat) (F : Nat → Value) (hi : L[i]? = some ⟨g, .cells (av n F) T⟩) (k : Nat) (F' Fn : Nat → Value)
    (hy : a.eval y = .agg (av k F')) (hz : (P.info? ty).map (·.size) = some k) (hk : off + k ≤ n) (h1 : ∀ j, j < k → (F' j).oneCell' = true) (hfn : ∀ j, j < n → (if off ≤ j ∧ j < off + k then F' (j - off) else F j) = Fn j)
    (h : ∀ w', Mem c (L.set i ⟨g, .cells (av n Fn) T⟩) w' → PL P ops Q rest a w') : PL P ops Q (o :: rest) a w := by
  have R := M.get i hi
  refine ⟨Go.BigFrame.wpList_want hw fun K hK => wp_store_mid ty x y ho g off (av k F') hx hy (by rw [av_size]; exact there_av R off k hk) (by rw [hz, av_size]) (av_one _ _ h1) (hK _ _ ?_)⟩
  rw [hd]
  refine PL.out ?_
  exact h _ (M.put i ⟨g, _⟩ hi _ (grown_setCells g _ _ _) (by rw [heap_setCells g T _ w _ off R, setAll_av n F F' Fn off k hk hfn]))

/-- One cell is stored. -/
theorem pl_put1 (M : Mem c L w) (hw : Region.wanted o (yielded ops a.tmps) = true) (hd : o.dst = none) (ty : TypeId) (x y : Operand) (ho : o.op = .store ty x y) (i g off : Nat) (hx : a.eval x = .pointer (some ⟨g, off, none⟩)) (n T : Nat) (F : Nat → Value) (hi : L[i]? = some ⟨g, .cells (av n F) T⟩) (v : Value) (Fn : Nat → Value)
    (hy : a.eval y = v) (hz : (P.info? ty).map (·.size) = some 1) (hk : off < n) (h1 : v.oneCell' = true) (hc : v.cells = #[v]) (hfn : ∀ j, j < n → (if j = off then v else F j) = Fn j)
    (h : ∀ w', Mem c (L.set i ⟨g, .cells (av n Fn) T⟩) w' → PL P ops Q rest a w') : PL P ops Q (o :: rest) a w := by
  have R := M.get i hi
  have h3 := h (w.setCell ⟨g, off, none⟩ v) (M.put i ⟨g, _⟩ hi _ (grown_setCell w g off v) (by
    rw [heap_setCell_same w g off _ T _ R, av_set]
    congr 2
    exact av_congr fun j hj => by rw [← hfn j hj]; rfl))
  have hrun : (Instr.storeAt ty (.pointer (some ⟨g, off, none⟩)) v).run P w = .ok () (w.setCell ⟨g, off, none⟩ v) := by
    cases hq : P.info? ty with
    | none => simp [hq] at hz
    | some t =>
      have ht : t.size = 1 := by simpa [hq] using hz
      have hcc := run_storeCells_cells (P := P) g off [v] 0 w (by intro j hj; simp at hj; subst hj; simp [cell_av R hk]) (by intro j hj; simp at hj; subst hj; simpa using free_av R off) (by simpa using h1)
      simp only [Nat.add_zero, World.setCells] at hcc
      simp [Instr.storeAt, Instr.sureAddr, storeVar, sizeOf, typeInfo, hq, ht, hc, hcc]
  refine ⟨Go.BigFrame.wpList_want hw fun K hK => ?_⟩
  unfold Oper.wp execOp
  simp only [ho, hx, hy, Sem.run_bind, hrun, Result.andThen_ok, Sem.run_pure]
  show K (a.put o.dst undef) _
  rw [hd]
  exact hK _ _ h3.out
end

section
variable {P : Program} {ops : Array Oper} {rest : List Oper} {o : Oper} {a : Act} {W : World} {c : Ctx} {L : List Blk} {Q : Act → Prop}

/-- What one value is in every world that keeps W. -/
theorem k_any (hw : Region.wanted o (yielded ops a.tmps) = true) (d : Option Tmp) (hd : o.dst = d) (v : Value) (hrun : ∀ s : KW W, (execOp a.eval o).run P s.w = .ok (.value v) s.w) (h : KL P ops W Q rest (a.put d v)) : KL P ops W Q (o :: rest) a := by
  subst hd
  refine ⟨?_⟩
  unfold wpK
  rw [if_pos hw]
  refine ⟨v, fun s => ?_, h.out⟩
  unfold keepAt
  rw [hrun]
  exact ⟨rfl, rfl⟩

theorem k_val (hw : Region.wanted o (yielded ops a.tmps) = true) (d : Option Tmp) (hd : o.dst = d) (v : Value) (hrun : ∀ w, (execOp a.eval o).run P w = .ok (.value v) w) (h : KL P ops W Q rest (a.put d v)) : KL P ops W Q (o :: rest) a := k_any hw d hd v (fun s => hrun s.w) h

theorem k_call (M : Mem c L W) (hw : Region.wanted o (yielded ops a.tmps) = true) (d : Option Tmp) (hd : o.dst = d) (f : FuncId) (args : Array Value) (v : Value) (hrun : ∀ w, (execOp a.eval o).run P w = .ok (.enter f args) w)
    (hc : ∀ w, Mem c L w → Calls P f args w fun e w' => e = .returned v ∧ Below w.heap.size w w') (h : KL P ops W Q rest (a.put d v)) : KL P ops W Q (o :: rest) a := by
  subst hd
  refine ⟨?_⟩
  unfold wpK
  rw [if_pos hw]
  refine ⟨v, fun s => ?_, h.out⟩
  unfold keepAt
  rw [hrun]
  exact ⟨rfl, hc s.w (M.keep s.keep)⟩

theorem k_load (M : Mem c L W) (hw : Region.wanted o (yielded ops a.tmps) = true) (d : Option Tmp) (hd : o.dst = d) (ty : TypeId) (x : Operand) (ho : o.op = .load ty x) (i g off : Nat) (hx : a.eval x = .pointer (some ⟨g, off, none⟩)) (n T : Nat) (F : Nat → Value) (hi : L[i]? = some ⟨g, .cells (av n F) T⟩)
    (k : Nat) (F' : Nat → Value) (hp : ∀ j, j < k → F (off + j) = F' j) (hk : off + k ≤ n) (t : TypeDesc) (hu : P.underlying ty = some t) (ht : t.isRow = true) (hz : (P.info? ty).map (·.size) = some k)
    (h : KL P ops W Q rest (a.put d (.agg (av k F')))) : KL P ops W Q (o :: rest) a := by
  refine k_any hw d hd (.agg (av k F')) (fun s => ?_) h
  unfold execOp
  have hl := run_loadAt_mid (P := P) s.w g off ty (av k F').toList t (range_av ((M.keep s.keep).get i hi) off k F' hk hp) hu ht (by rw [hz]; simp [av_size])
  simp only [ho, hx, Sem.run_bind, hl, Result.andThen_ok, Sem.run_pure, Array.toArray_toList]

theorem k_cell (M : Mem c L W) (hw : Region.wanted o (yielded ops a.tmps) = true) (d : Option Tmp) (hd : o.dst = d) (ty : TypeId) (x : Operand) (ho : o.op = .load ty x) (g off : Nat) (hx : a.eval x = .pointer (some ⟨g, off, none⟩)) (v : Value) (hag : ∀ w, (isAgg ty).run P w = .ok false w) (hc : ∀ w, Mem c L w → w.cell? ⟨g, off, none⟩ = some v)
    (h : KL P ops W Q rest (a.put d v)) : KL P ops W Q (o :: rest) a := by
  refine k_any hw d hd v (fun s => ?_) h
  have hr := run_cell (P := P) (hc s.w (M.keep s.keep)) ty hag
  unfold execOp
  simp only [ho, hx, Sem.run_bind, hr, Result.andThen_ok, Sem.run_pure]

theorem kl_nil (h : Q a) : KL P ops W Q [] a := ⟨h⟩
theorem quiet_of_K : ∀ (l : List Oper) (a : Act), wpK P ops W Q l a → wpQuiet P ops (fun w' => ∃ s : KW W, w' = s.w) Q l a
  | [], _, h => h
  | o :: l, a, h => by
    unfold wpK at h
    unfold wpQuiet
    split
    · rename_i hw
      rw [if_pos hw] at h
      obtain ⟨v, h1, h2⟩ := h
      refine ⟨v, fun w' => ?_, quiet_of_K l _ h2⟩
      rintro ⟨s, rfl⟩
      have h3 := h1 s
      unfold keepAt at h3
      unfold Oper.quietAt
      generalize (execOp a.eval o).run P s.w = r at *
      cases r with
      | ok x w' =>
        cases x <;> simp only [keepUpon] at h3 <;> simp only [Oper.quietUpon]
        case value => exact h3
        case skip => exact h3
        case enter f args => exact ⟨h3.1, keep_of h3.2⟩
      | halt x w' => simp only [keepUpon] at h3
    · rename_i hw
      rw [if_neg hw] at h
      exact quiet_of_K l _ h
end

section
variable {P : Program} {W : World} {c : Ctx} {L : List Blk} {Q : Exit → Act → World → Prop} {a : Act}

/-- A region that draws, with calls, and a tail in the text's order. -/
theorem rg_tail {id : Nat} {l : List Oper} (M : Mem c L W) (n : Nat) (hm : P.follows .mixedOrders = true) (hB : Region.lexTailB .any l.toArray n = true)
    (h0 : KL P l.toArray W (fun a' => ∀ w', Mem c L w' → PL P l.toArray Q (l.drop n) a' w') (l.take n) a) : (Code.region id l.toArray true).wp P Q a W := by
  have h := h0.out
  refine wp_region_keep_tail n hm hB (quiet_of_K _ _ ?_)
  have key : ∀ (l1 : List Oper) (a1 : Act), wpK P l.toArray W (fun a' => ∀ w', Mem c L w' → PL P l.toArray Q (l.drop n) a' w') l1 a1 → wpK P l.toArray W (fun a' => ∀ s : KW W, wpList P l.toArray Q (l.drop n) a' s.w) l1 a1 := by
    intro l1
    induction l1 with
    | nil => intro a1 h1 s; exact (h1 s.w (M.keep s.keep)).out
    | cons o l1 ih =>
      intro a1 h1
      unfold wpK at h1
      unfold wpK
      split
      · rename_i hw
        rw [if_pos hw] at h1
        obtain ⟨v, h2, h3⟩ := h1
        exact ⟨v, h2, ih _ h3⟩
      · rename_i hw
        rw [if_neg hw] at h1
        exact ih _ h1
  exact key _ _ h

end

end Go.Proofs.YtmhfmhmpoobmlaaGreatDoor.Sha

/- What operations hand back: words, places of arrays, loops, slices that grow. -/
namespace Go.Proofs.YtmhfmhmpoobmlaaGreatDoor.Sha
open Go.RowKit

/- words of 64 bits -/
def ua (x y : Int) : Int := IntKind.wrap .u64 (x + y)
def ux (x y : Int) : Int := IntKind.wrap .u64 (BitVec.ofInt 64 x ^^^ BitVec.ofInt 64 y).toNat
def un (x y : Int) : Int := IntKind.wrap .u64 (BitVec.ofInt 64 x &&& BitVec.ofInt 64 y).toNat
def uo (x y : Int) : Int := IntKind.wrap .u64 (BitVec.ofInt 64 x ||| BitVec.ofInt 64 y).toNat
def ut (x : Int) : Int := ux 18446744073709551615 x
def sl (x : Int) (n : Nat) : Int := IntKind.wrap .u64 (x * 2 ^ n)
def sr (x : Int) (n : Nat) : Int := x.fdiv (2 ^ n)
/- words of 32 bits -/
def cv (k : IntKind) (x : Int) : Int := IntKind.wrap k x

theorem put_w64 (f : Nat → Int) (k : Nat) (v : Int) (j : Nat) : (if j = k then .int .u64 v else w64 f j) = w64 (upd f k v) j := by
  unfold w64 upd
  split <;> rfl
section
variable {P : Program} {ops : Array Oper} {rest : List Oper} {o : Oper} {a : Act} {w : World} {c : Ctx} {L : List Blk} {Q : Exit → Act → World → Prop}

theorem au_loop {c : Code} (I : Nat → Act → World → Prop) (N : Nat) (h0 : I 0 a w) (round : ∀ j a w, j < N → I j a w → c.wp P (Exit.then (I (j + 1)) Q) a w) (last : ∀ a w, I N a w → c.wp P (Exit.then (fun _ _ => False) Q) a w) : (Code.loop c).wp P Q a w := by
  refine wp_loop_ghost (fun n a w => n ≤ N ∧ I (N - n) a w) N ⟨Nat.le_refl _, by rw [Nat.sub_self]; exact h0⟩ fun n a w ⟨hn, hI⟩ => ?_
  cases n with
  | zero =>
    rw [Nat.sub_zero] at hI
    refine wp_mono (last a w hI) fun e a' w' hq => ?_
    cases e <;> first | exact hq | exact hq.elim
  | succ n =>
    refine wp_mono (round (N - (n + 1)) a w (by omega) hI) fun e a' w' hq => ?_
    rw [show N - (n + 1) + 1 = N - n by omega] at hq
    cases e <;> first | exact hq | exact ⟨n, by omega, by omega, hq⟩

theorem add_at (g o i : Nat) : (⟨g, o, none⟩ : Addr).add i = ⟨g, o + i, none⟩ := by unfold Addr.add; split <;> simp_all

theorem run_ix1 (t : TypeId) (len : Nat) (elem : TypeId) (hu : P.underlying t = some (.array len elem)) (hs : (P.info? elem).map (·.size) = some 1) (x ix : Operand) (ho : o.op = .indexAddr t x ix) (g : Nat) (hx : a.eval x = .pointer (some ⟨g, 0, none⟩)) (k : IntKind) (i : Nat) (hi : a.eval ix = .int k (i : Int)) (hlt : i < len) (w : World) :
    (execOp a.eval o).run P w = .ok (.value (.pointer (some ⟨g, i, none⟩))) w := by
  cases hq : P.info? elem with
  | none => simp [hq] at hs
  | some u =>
    have hsz : u.size = 1 := by simpa [hq] using hs
    unfold execOp
    simp [ho, hx, hi, Instr.indexAt, Instr.sureAddr, asIntOf, run_underlying hu, sizeOf, typeInfo, hq, hsz, add_at, hlt]

theorem run_ixA (t : TypeId) (len : Nat) (elem : TypeId) (hu : P.underlying t = some (.array len elem)) (hs : (P.info? elem).map (·.size) = some 1) (hag : ∀ w, (isAgg elem).run P w = .ok false w) (x ix : Operand) (ho : o.op = .index t x ix) (F : Nat → Value) (hx : a.eval x = .agg (av len F)) (k : IntKind) (i : Nat) (hi : a.eval ix = .int k (i : Int)) (hlt : i < len) {v : Value} (hv : F i = v) (w : World) :
    (execOp a.eval o).run P w = .ok (.value v) w := by
  cases hq : P.info? elem with
  | none => simp [hq] at hs
  | some u =>
    have hsz : u.size = 1 := by simpa [hq] using hs
    have hg := av_get len F i hlt
    unfold execOp
    simp [ho, hx, hi, Instr.index, asIntOf, run_underlying hu, sizeOf, typeInfo, hq, hsz, hlt, part, hag, hg, hv]

theorem results_tmp1 {fn : Func} {p : Tmp} (h : fn.results = #[.tmp p]) (tmps : Array Value) (w : World) (v : Value) (hp : tmps.getD p undef = v) : (results fn tmps).run P w = .ok v w := by
  have hp' : tmps[p]?.getD undef = v := by simpa using hp
  simp [results, h, hp']
theorem results_none {fn : Func} (h : fn.results = #[]) (tmps : Array Value) (w : World) : (results fn tmps).run P w = .ok (.tuple #[]) w := by
  simp [results, h]

/-- Cells of a block, copied to another place of it. -/
theorem pl_copyA (M : Mem c L w) (hw : Region.wanted o (yielded ops a.tmps) = true) (d : Option Tmp) (hd : o.dst = d) (dT sT ty elem : TypeId) (hu : P.underlying dT = some (.slice elem)) (hz : (P.info? elem).map (·.size) = some 1) (i g n T : Nat) (F : Nat → Value) (hi : L[i]? = some ⟨g, .cells (av n F) T⟩) (od dl dc os sl sc k : Nat) (hk : k = Nat.min sl dl) (hd1 : od + k ≤ n) (hs1 : os + k ≤ n) (h1 : ∀ j, j < n → (F j).oneCell' = true) (Fn : Nat → Value) (hfn : ∀ j, j < n → (if od ≤ j ∧ j < od + k then F (os + (j - od)) else F j) = Fn j)
    (hrun : ∀ w, (execOp a.eval o).run P w = (do pure (Next.value (← Builtin.copy_ #[dT, sT] ty #[.slice (some ⟨g, od, none⟩) dl dc, .slice (some ⟨g, os, none⟩) sl sc]))).run P w)
    (h : ∀ w', Mem c (L.set i ⟨g, .cells (av n Fn) T⟩) w' → PL P ops Q rest (a.put d (goInt k)) w') : PL P ops Q (o :: rest) a w := by
  have R := M.get i hi
  have hl : (av k (fun j => F (os + j))).toList.length = k := by simp [av_size]
  have hr := run_copy_cells (P := P) w dT sT ty elem g od dl dc ⟨g, os, none⟩ sl sc (av k (fun j => F (os + j))).toList hu hz (by rw [hl, hk])
    (fun j v hv => by
      obtain ⟨hj, rfl⟩ := av_toList_get _ _ _ _ hv
      rw [add_at]
      exact cell_av R (by omega))
    (fun j hj => by rw [hl] at hj; rw [cell_av R (by omega)]; rfl) (fun j hj => free_av R _)
    (fun v hv => by
      obtain ⟨j, hj⟩ := List.mem_iff_getElem?.1 hv
      obtain ⟨hj', rfl⟩ := av_toList_get _ _ _ _ hj
      exact h1 _ (by omega))
  rw [hl] at hr
  refine pl_to hw d hd (goInt k) _ ?_ (h _ (M.put i ⟨g, _⟩ hi _ (grown_setCells g _ _ _) (by rw [heap_setCells g T _ w _ od R, setAll_av n F (fun j => F (os + j)) Fn od k hd1 hfn])))
  rw [hrun]
  simp only [Sem.run_bind, hr, Result.andThen_ok, Sem.run_pure]

/-- The byte at a place of a string. -/
def bt (s : ByteArray) (i : Nat) : Int := ((s.data[i]?.getD 0).toNat : Int)
theorem bytes_take (s : ByteArray) (k : Nat) (hk : k ≤ s.size) : List.take k (List.map (fun b : UInt8 => Value.int .u8 b.toNat) s.data.toList) = (av k (w8 (bt s))).toList := by
  have hsd : s.data.size = s.size := rfl
  apply List.ext_getElem?
  intro i
  by_cases hi : i < k
  · have e : (av k (w8 (bt s))).toList[i]? = some (w8 (bt s) i) := by rw [Array.getElem?_toList, av_get k _ i hi]
    rw [e, List.getElem?_take_of_lt hi, List.getElem?_map, Array.getElem?_toList]
    unfold w8 bt
    rw [Array.getElem?_eq_getElem (by omega)]
    rfl
  · rw [List.getElem?_eq_none (by simp; omega), List.getElem?_eq_none (by simp [av_size]; omega)]

/-- The bytes of a string, as many as there is room for, copied into a block. -/
theorem pl_copyS (M : Mem c L w) (hw : Region.wanted o (yielded ops a.tmps) = true) (d : Option Tmp) (hd : o.dst = d) (dT sT ty elem : TypeId) (hu : P.underlying dT = some (.slice elem)) (hz : (P.info? elem).map (·.size) = some 1) (i g n T : Nat) (F : Nat → Value) (hi : L[i]? = some ⟨g, .cells (av n F) T⟩) (od dl dc : Nat) (s : ByteArray) (k : Nat) (hk : k = Nat.min s.size dl) (hd1 : od + k ≤ n) (Fn : Nat → Value) (hfn : ∀ j, j < n → (if od ≤ j ∧ j < od + k then w8 (bt s) (j - od) else F j) = Fn j)
    (hrun : ∀ w, (execOp a.eval o).run P w = (do pure (Next.value (← Builtin.copy_ #[dT, sT] ty #[.slice (some ⟨g, od, none⟩) dl dc, .string s]))).run P w)
    (h : ∀ w', Mem c (L.set i ⟨g, .cells (av n Fn) T⟩) w' → PL P ops Q rest (a.put d (goInt k)) w') : PL P ops Q (o :: rest) a w := by
  have R := M.get i hi
  have hks : k ≤ s.size := by rw [hk]; exact Nat.min_le_left _ _
  have hl : (av k (w8 (bt s))).toList.length = k := by simp [av_size]
  have hst := run_storeCells_cells (P := P) g od (av k (w8 (bt s))).toList 0 w (fun j hj => by rw [hl] at hj; rw [Nat.add_zero, cell_av R (by omega)]; rfl) (fun j _ => free_av R _)
    (fun v hv => by
      obtain ⟨j, hj⟩ := List.mem_iff_getElem?.1 hv
      obtain ⟨hj', rfl⟩ := av_toList_get _ _ _ _ hj
      rfl)
  have hb := bytes_take s k hks
  refine pl_to hw d hd (goInt k) _ ?_ (h _ (M.put i ⟨g, _⟩ hi _ (grown_setCells g _ _ _) (by rw [heap_setCells g T _ w _ od R, setAll_av n F (w8 (bt s)) Fn od k hd1 hfn])))
  rw [hrun]
  cases hq : P.info? elem with
  | none => simp [hq] at hz
  | some t =>
    simp only [Nat.add_zero] at hst
    have e : (Builtin.copy_ #[dT, sT] ty #[.slice (some ⟨g, od, none⟩) dl dc, .string s]).run P w = .ok (goInt k) (w.setCells g od (av k (w8 (bt s))).toList) := by
      simp only [Builtin.copy_, List.getElem?_toArray, List.getElem?_cons_zero, List.getElem?_cons_succ, Sem.run_bind, run_underlying hu, Result.andThen_ok, Builtin.lenOf, Sem.run_pure, Builtin.firstCells, sizeOf, typeInfo, ← hk]
      simp [hq, hb, hst]
    simp only [Sem.run_bind, e, Result.andThen_ok, Sem.run_pure]

/-- An array's end, from a place on. -/
theorem run_slA (t : TypeId) (len : Nat) (elem : TypeId) (hu : P.underlying t = some (.array len elem)) (hs : (P.info? elem).map (·.size) = some 1) (x lo : Operand) (ho : o.op = .slice t x (some lo) none none) (g off : Nat) (hx : a.eval x = .pointer (some ⟨g, off, none⟩)) (k : IntKind) (i : Nat) (hi : a.eval lo = .int k (i : Int)) (hlt : i < len) (w : World) :
    (execOp a.eval o).run P w = .ok (.value (.slice (some ⟨g, off + i, none⟩) (len - i) (len - i))) w := by
  cases hq : P.info? elem with
  | none => simp [hq] at hs
  | some u =>
    have hsz : u.size = 1 := by simpa [hq] using hs
    have hne : ¬ len = i := by omega
    unfold execOp
    simp [ho, hx, hi, Instr.sliceAt, Instr.sureAddr, run_underlying hu, Instr.sliceBounds, run_sliceBound, sizeOf, typeInfo, hq, hsz, add_at, hne, Nat.le_of_lt hlt]
end

theorem results_tmp2 {P : Program} {fn : Func} {p q : Tmp} (h : fn.results = #[.tmp p, .tmp q]) (tmps : Array Value) (w : World) (v u : Value) (hp : tmps.getD p undef = v) (hq : tmps.getD q undef = u) : (results fn tmps).run P w = .ok (.tuple #[v, u]) w := by
  have hp' : tmps[p]?.getD undef = v := by simpa using hp
  have hq' : tmps[q]?.getD undef = u := by simpa using hq
  simp [results, h, hp', hq']

/- A region that draws its order: what only reads, and reads what nobody but the last operation writes, is taken first. -/
section
variable {P : Program} {ops : Array Oper} {Q : Exit → Act → World → Prop} {md : Region.Mode} {S : World → Prop} {n : Nat}
/-- Whatever order is picked; S holds behind every operation ahead of number n. -/
def wpAnyL (P : Program) (md : Region.Mode) (ops : Array Oper) (Q : Exit → Act → World → Prop) (S : World → Prop) (n : Nat) : Nat → Array Bool → Act → World → Prop
  | 0, listed, a, w => Region.ready md ops listed = [] ∧ Q .normal a w
  | fuel + 1, listed, a, w =>
    (Region.ready md ops listed = [] → Q .normal a w) ∧
    ∀ i ∈ Region.ready md ops listed, wpOp P ops Q i (fun a' w' => (i < n → S w') ∧ wpAnyL P md ops Q S n fuel (listed.setIfInBounds i true) a' w') a w

theorem wpAny_of_L : ∀ (fuel : Nat) (listed : Array Bool) (a : Act) (w : World), wpAnyL P md ops Q S n fuel listed a w → wpAny P md ops Q fuel listed a w
  | 0, _, _, _, h => h
  | fuel + 1, _, _, _, h => ⟨h.1, fun i hi => wpOp_mono (fun a' w' h' => wpAny_of_L fuel _ a' w' h'.2) (h.2 i hi)⟩

theorem wpAnyL_first {i : Nat} {oi : Oper} {v : Value} (hi : ops[i]? = some oi) (hin : i < n) (hs : Region.sinkB md ops n = true) (hc : Region.chainB md ops n = true) (hn : n < ops.size) (hsel : ∀ (j : Nat) (o : Oper) cs b, ops[j]? = some o → o.op ≠ .select cs b)
    (hQ : ∀ c a w, Q (.panic c) (a.put oi.dst v) w → Q (.panic c) a w) :
    ∀ (fuel : Nat) (listed : Array Bool) (a : Act) (w : World), HeadInv md ops n listed →
      (∀ j oj, ops[j]? = some oj → j ≠ i → listed.getD j true = false → (∀ e ∈ oj.after, Region.binds md e = true → e.on ≠ i) → oi.apart ops oj = true) →
      i ∈ Region.ready md ops listed → YieldsIf P ops S oi v a → S w →
      wpAnyL P md ops Q S n fuel (listed.setIfInBounds i true) (a.put oi.dst v) w → wpAnyL P md ops Q S n (fuel + 1) listed a w := by
  intro fuel
  induction fuel with
  | zero =>
    intro listed a w _ _ hr hy hS H
    refine ⟨fun h => (by rw [h] at hr; cases hr), fun j hj => ?_⟩
    by_cases hji : j = i
    · subst hji
      exact hy.wpOp hi hS ⟨fun _ => hS, H⟩
    · have h2 := ready_mono hj hji
      rw [H.1] at h2
      cases h2
  | succ fuel ih =>
    intro listed a w inv hfree hr hy hS H
    refine ⟨fun h => (by rw [h] at hr; cases hr), fun j hj => ?_⟩
    by_cases hji : j = i
    · subst hji
      exact hy.wpOp hi hS ⟨fun _ => hS, H⟩
    · have h1 := H.2 j (ready_mono hj hji)
      obtain ⟨hjun, oj, hoj, hall⟩ := mem_ready.1 hj
      have hun := (mem_ready.1 hr).1
      have hjn : j < n := Nat.lt_of_not_le fun h => tail_waits hs hc hn inv _ i rfl hin hun j h hj
      have hnot : ∀ e ∈ oj.after, Region.binds md e = true → e.on ≠ i := fun e he hb heq => by
        have h1 := hall e he hb
        rw [heq, getD_both hun] at h1
        cases h1
      have h2 := wpOp_putIf hoj (hfree j oj hoj hji hjun hnot) (fun cs b => hsel i oi cs b hi) (fun cs b => hsel j oj cs b hoj) hQ hy h1
      have hfree' : ∀ k ok, ops[k]? = some ok → k ≠ i → (listed.setIfInBounds j true).getD k true = false → (∀ e ∈ ok.after, Region.binds md e = true → e.on ≠ i) → oi.apart ops ok = true := fun k ok hk hki hku hkn => by
        refine hfree k ok hk hki ?_ hkn
        by_cases hjk : j = k
        · subst hjk
          exact hjun
        · rw [getD_set_ne true hjk] at hku
          exact hku
      refine wpOp_mono (fun a' w' h3 => ⟨fun _ => h3.2.1 hjn, ih (listed.setIfInBounds j true) a' w' (inv.set hj hjn) hfree' (ready_mono hr (Ne.symm hji)) h3.1 (h3.2.1 hjn) ?_⟩) h2
      rw [Array.setIfInBounds_comm _ _ hji]
      exact h3.2.2
end

structure HL (P : Program) (ops : Array Oper) (Q : Exit → Act → World → Prop) (S : World → Prop) (n : Nat) (fuel : Nat) (listed : Array Bool) (a : Act) (w : World) : Prop where
  out : (∀ c a d v w, Q (.panic c) (Act.put a d v) w → Q (.panic c) a w) → (Region.sinkB .any ops n = true ∧ Region.chainB .any ops n = true ∧ n < ops.size ∧ Region.noSelect ops = true) → HeadInv .any ops n listed → wpAnyL P .any ops Q S n fuel listed a w

section
variable {P : Program} {ops : Array Oper} {o : Oper} {a : Act} {w : World} {c : Ctx} {L : List Blk} {Q : Exit → Act → World → Prop} {S : World → Prop} {n fuel : Nat} {listed : Array Bool}

theorem rg_held {id : Nat} {l : List Oper} (M : Mem c L w) (Ls : List Blk) (n : Nat) (hn : l.length = n + 1) (hm : P.follows .mixedOrders = true) (hB : (Region.sinkB .any l.toArray n && Region.chainB .any l.toArray n && Region.noSelect l.toArray) = true) (hQ : ∀ c a d v w, Q (.panic c) (Act.put a d v) w → Q (.panic c) a w)
    (h : ∀ w', Mem c L w' → HL P l.toArray Q (Mem c Ls) n (n + 1) (Array.replicate (n + 1) false) a w') : (Code.region id l.toArray true).wp P Q a w := by
  simp only [Bool.and_eq_true] at hB
  have hsz : l.toArray.size = n + 1 := by simpa using hn
  have inv : HeadInv .any l.toArray n (Array.replicate (n + 1) false) :=
    ⟨by simpa using hn.symm, fun j oj _ hl => (by rw [getD_replicate_false] at hl; cases hl), fun t _ ht => getD_in (by simp; omega) (getD_replicate_false _ _)⟩
  have h2 := (h w.drew M.drew).out hQ ⟨hB.1.1, hB.1.2, by omega, hB.2⟩ inv
  refine wp_region_any hm (wpAny_of_L (S := Mem c Ls) (n := n) _ _ _ _ ?_)
  rw [hsz]
  exact h2
theorem hl_val (M : S w) (i : Nat) (hi : ops.toList[i]? = some o) (hin : i < n) (hf : Region.free .any ops listed i = true) (hr : (Region.ready .any ops listed).contains i = true) (hw : Region.wanted o (yielded ops a.tmps) = true) (d : Option Tmp) (hd : o.dst = d) (v : Value) (hrun : ∀ w, S w → (execOp a.eval o).run P w = .ok (.value v) w)
    (h : HL P ops Q S n fuel (listed.setIfInBounds i true) (a.put d v) w) : HL P ops Q S n (fuel + 1) listed a w := by
  subst hd
  have hi' : ops[i]? = some o := by rw [← Array.getElem?_toList]; exact hi
  have hr' : i ∈ Region.ready .any ops listed := by simpa using hr
  exact ⟨fun hQ hB inv => wpAnyL_first hi' hin hB.1 hB.2.1 hB.2.2.1 (Region.noSelect_spec hB.2.2.2) (fun c a w h => hQ c a _ _ w h) fuel listed a w inv (Region.free_spec hi' hf) hr' (.inl ⟨hw, hrun⟩) M (h.out hQ hB (inv.set hr' hin))⟩
theorem hl_load {Ls : List Blk} (M : Mem c Ls w) (i : Nat) (hi : ops.toList[i]? = some o) (hin : i < n) (hf : Region.free .any ops listed i = true) (hr : (Region.ready .any ops listed).contains i = true) (hw : Region.wanted o (yielded ops a.tmps) = true) (d : Option Tmp) (hd : o.dst = d) (ty : TypeId) (x : Operand) (ho : o.op = .load ty x) (j g off : Nat) (hx : a.eval x = .pointer (some ⟨g, off, none⟩)) (m T : Nat) (F : Nat → Value) (hj : Ls[j]? = some ⟨g, .cells (av m F) T⟩)
    (k : Nat) (F' : Nat → Value) (hp : ∀ j, j < k → F (off + j) = F' j) (hk : off + k ≤ m) (t : TypeDesc) (hu : P.underlying ty = some t) (ht : t.isRow = true) (hz : (P.info? ty).map (·.size) = some k)
    (h : HL P ops Q (Mem c Ls) n fuel (listed.setIfInBounds i true) (a.put d (.agg (av k F'))) w) : HL P ops Q (Mem c Ls) n (fuel + 1) listed a w :=
  hl_val M i hi hin hf hr hw d hd _ (fun w' M' => by
    unfold execOp
    have hl := run_loadAt_mid (P := P) w' g off ty (av k F').toList t (range_av (M'.get j hj) off k F' hk hp) hu ht (by rw [hz]; simp [av_size])
    simp only [ho, hx, Sem.run_bind, hl, Result.andThen_ok, Sem.run_pure, Array.toArray_toList]) h
theorem wp_unthen {X K : Act → World → Prop} (h : o.wp P a w X (Exit.then K Q)) : o.wp P a w X Q := by
  unfold Oper.wp at *
  generalize (execOp a.eval o).run P w = r at *
  cases r with
  | ok n w' =>
    cases n <;> simp only [Oper.upon] at h ⊢ <;>
      first
        | exact h
        | exact Calls.mono h (fun e w'' he => by cases e <;> exact he)
  | halt x w' => cases x <;> simp only [Oper.upon] at h ⊢ <;> exact h
theorem wpOp_one {i : Nat} {K : Act → World → Prop} (hi : ops[i]? = some o) (h : wpList P ops (Exit.then K Q) [o] a w) : wpOp P ops Q i K a w := by
  unfold wpOp
  simp only [hi]
  unfold wpList at h
  split
  · rename_i hw
    rw [if_pos hw] at h
    rcases h with h | ⟨h, a', w', h2⟩
    · exact .inl (Oper.wp_mono (fun a' w' h2 => h2) (wp_unthen h))
    · exact .inr ⟨h, a', w', h2⟩
  · rename_i hw
    rw [if_neg hw] at h
    exact h
/-- Only number i may come up. -/
theorem hl_one (i : Nat) (hin : i < n) (hr : Region.ready .any ops listed = [i]) (hi : ops.toList[i]? = some o)
    (h : PL P ops (Exit.then (fun a' w' => S w' ∧ HL P ops Q S n fuel (listed.setIfInBounds i true) a' w') Q) [o] a w) : HL P ops Q S n (fuel + 1) listed a w := by
  refine ⟨fun hQ hB inv => ⟨fun h0 => (by rw [hr] at h0; cases h0), fun j hj => ?_⟩⟩
  have hj' := hj
  rw [hr] at hj
  obtain rfl := List.mem_singleton.1 hj
  refine wpOp_mono (fun a' w' h2 => ⟨fun _ => h2.1, h2.2.out hQ hB (inv.set hj' hin)⟩) (wpOp_one (by rw [← Array.getElem?_toList]; exact hi) h.out)
/-- The last one. -/
theorem hl_end (hr : Region.ready .any ops listed = [n]) (hr2 : Region.ready .any ops (listed.setIfInBounds n true) = []) (hi : ops.toList[n]? = some o)
    (h : PL P ops (Exit.then (fun a' w' => Q .normal a' w') Q) [o] a w) : HL P ops Q S n (fuel + 1) listed a w := by
  refine ⟨fun hQ hB inv => ⟨fun h0 => (by rw [hr] at h0; cases h0), fun j hj => ?_⟩⟩
  rw [hr] at hj
  obtain rfl := List.mem_singleton.1 hj
  refine wpOp_mono (fun a' w' h2 => ⟨fun h => absurd h (Nat.lt_irrefl _), ?_⟩) (wpOp_one (by rw [← Array.getElem?_toList]; exact hi) h.out)
  cases fuel with
  | zero => exact ⟨hr2, h2⟩
  | succ f => exact ⟨fun _ => h2, fun k hk => by rw [hr2] at hk; cases hk⟩
end
end Go.Proofs.YtmhfmhmpoobmlaaGreatDoor.Sha

/- Slices that grow: a cell is put behind the others; bytes of a string, and a string of bytes. -/
namespace Go.Proofs.YtmhfmhmpoobmlaaGreatDoor.Sha
open Go.RowKit

/-- The object holds these cells, there is room for cap of them, and they may be written. -/
structure SB (Z : Obj) (cap : Nat) (l : List Value) : Prop where
  ex : ∃ cs T fr, Z = .cells cs T fr ∧ l.length ≤ cap ∧ cap ≤ cs.size ∧ (∀ i, i < l.length → cs[i]? = l[i]?) ∧ ∀ i, i < cap → (decide (fr.1 ≤ i) && decide (i < fr.2)) = false

theorem SB.cell {Z : Obj} {cap : Nat} {l : List Value} (h : SB Z cap l) {W : World} {g : Nat} (hz : W.heap[g]? = some Z) {i : Nat} {v : Value} (hi : l[i]? = some v) : W.cell? ⟨g, i, none⟩ = some v := by
  obtain ⟨cs, T, fr, rfl, _, _, h3, _⟩ := h.ex
  have hlt := (List.getElem?_eq_some_iff.1 hi).1
  unfold World.cell?
  rw [hz]
  simp only [Option.isSome_none, Bool.false_eq_true, if_false]
  rw [h3 i hlt, hi]
theorem SB.set {Z : Obj} {cap : Nat} {l : List Value} (h : SB Z cap l) (hr : l.length < cap) (v : Value) {W : World} {g : Nat} (hz : W.heap[g]? = some Z) : ∃ Z', (W.setCell ⟨g, l.length, none⟩ v).heap[g]? = some Z' ∧ SB Z' cap (l ++ [v]) := by
  obtain ⟨cs, T, fr, rfl, h1, h2, h3, h4⟩ := h.ex
  refine ⟨.cells (cs.setIfInBounds l.length v) T fr, ?_, ⟨_, T, fr, rfl, by simp; omega, by simpa using h2, fun i hi => ?_, h4⟩⟩
  · simp [World.setCell, Array.getElem?_modify, hz]
  · rw [Array.getElem?_setIfInBounds]
    by_cases e : l.length = i
    · subst e
      rw [if_pos rfl, if_pos (by omega)]
      simp
    · simp at hi
      rw [if_neg e, h3 i (by omega), List.getElem?_append_left (by omega)]

/-- Bytes as numbers. -/
def bs (ns : List Int) : ByteArray := ⟨(ns.map fun n => UInt8.ofNat n.toNat).toArray⟩
def sb (s : ByteArray) : List Int := s.data.toList.map fun b => (b.toNat : Int)
def vs8 (l : List Int) : List Value := l.map fun x => .int .u8 x
theorem bs_size (l : List Int) : (bs l).size = l.length := by simp [bs, ByteArray.size]
theorem sb_length (s : ByteArray) : (sb s).length = s.size := by simp [sb]
theorem vs8_length (l : List Int) : (vs8 l).length = l.length := by simp [vs8]
theorem sb_get (s : ByteArray) (i : Nat) (h : i < s.size) : (sb s)[i]? = some (bt s i) := by
  have h' : i < s.data.size := h
  unfold sb bt
  rw [List.getElem?_map, Array.getElem?_toList, Array.getElem?_eq_getElem h']
  rfl
theorem sb_bs (l : List Int) (h : ∀ x ∈ l, 0 ≤ x ∧ x < 256) : sb (bs l) = l := by
  unfold sb bs
  rw [List.map_map]
  conv => rhs; rw [← List.map_id l]
  refine List.map_congr_left fun x hx => ?_
  have := h x hx
  simp
  omega
theorem bt_of_sb (s : ByteArray) (i : Nat) : bt s i = (sb s).getD i 0 := by
  by_cases h : i < s.size
  · rw [List.getD_eq_getElem?_getD, sb_get s i h]
    rfl
  · have h' : s.data.size ≤ i := by have : s.data.size = s.size := rfl; omega
    rw [List.getD_eq_getElem?_getD, List.getElem?_eq_none (by rw [sb_length]; omega)]
    unfold bt
    rw [Array.getElem?_eq_none h']
    rfl
theorem sb_append (s t : ByteArray) : sb (s ++ t) = sb s ++ sb t := by
  unfold sb
  rw [← List.map_append]
  congr 1

section
variable {P : Program} {ops : Array Oper} {rest : List Oper} {o : Oper} {a : Act} {w : World} {c : Ctx} {L : List Blk} {Q : Exit → Act → World → Prop}

theorem rounds_go {c : Code} {n : Nat} (h : c.wp P (Exit.then (Code.rounds P c Q n) Q) a w) : Code.rounds P c Q (n + 1) a w := h

theorem run_appR (t ty e : TypeId) (ht : P.underlying t = some (.slice e)) (hz : (P.info? e).map (·.size) = some 1) (g cap : Nat) (Z : Obj) (l : List Value) (hg : w.heap[g]? = some Z) (hs : SB Z cap l) (hroom : l.length < cap) (gx : Nat) (v : Value) (hx : w.cell? ⟨gx, 0, none⟩ = some v) (h1 : v.oneCell' = true) :
    (Builtin.append_ #[t, t] ty #[.slice (some ⟨g, 0, none⟩) l.length cap, .slice (some ⟨gx, 0, none⟩) 1 1]).run P w = .ok (.slice (some ⟨g, 0, none⟩) (l.length + 1) cap) (w.setCell ⟨g, l.length, none⟩ v) := by
  have hf := run_firstCells_some (P := P) w 1 1 ⟨gx, 0, none⟩ 1 1 [v] (by simp) (fun j u hu => by
    cases j with
    | zero => simp at hu; subst hu; rw [add_at]; exact hx
    | succ j => simp at hu)
  obtain ⟨cs, T, fr, rfl, h2, h3, h4, h5⟩ := hs.ex
  have hst := run_storeCells_cells (P := P) g l.length [v] 0 w (fun j hj => by
      simp at hj
      subst hj
      unfold World.cell?
      rw [hg]
      simp
      omega) (fun j hj => by
      simp at hj
      subst hj
      unfold World.frozen?
      rw [hg]
      exact h5 _ hroom) (by simpa using h1)
  simp only [Nat.add_zero, World.setCells] at hst
  cases hq : P.info? e with
  | none => simp [hq] at hz
  | some i =>
    have hsz : i.size = 1 := by simpa [hq] using hz
    have hr2 : l.length + 1 ≤ cap := hroom
    simp [Builtin.append_, run_underlying ht, sizeOf, typeInfo, hq, hsz, Builtin.lenOf, hr2, hf, add_at, hst]

/-- There is room. -/
theorem pl_appR (M : Mem c L w) (hw : Region.wanted o (yielded ops a.tmps) = true) (d : Option Tmp) (hd : o.dst = d) (t ty e : TypeId) (ht : P.underlying t = some (.slice e)) (hz : (P.info? e).map (·.size) = some 1) (i g n cap : Nat) (Z : Obj) (l : List Value) (hi : L[i]? = some ⟨g, Z⟩) (hs : SB Z cap l) (hn : l.length = n) (hroom : n < cap) (j gx Tx : Nat) (v : Value) (hj : L[j]? = some ⟨gx, .cells (av 1 (fun _ => v)) Tx⟩) (h1 : v.oneCell' = true)
    (hrun : ∀ w, (execOp a.eval o).run P w = (do pure (Next.value (← Builtin.append_ #[t, t] ty #[.slice (some ⟨g, 0, none⟩) n cap, .slice (some ⟨gx, 0, none⟩) 1 1]))).run P w)
    (h : ∀ Z' w', SB Z' cap (l ++ [v]) → Mem c (L.set i ⟨g, Z'⟩) w' → PL P ops Q rest (a.put d (.slice (some ⟨g, 0, none⟩) (n + 1) cap)) w') : PL P ops Q (o :: rest) a w := by
  subst hn
  obtain ⟨Z', h2, h3⟩ := hs.set hroom v (M.get i hi)
  refine pl_to hw d hd _ _ ?_ (h Z' _ h3 (M.put i ⟨g, Z⟩ hi Z' (grown_setCell _ _ _ _) h2))
  rw [hrun]
  simp only [Sem.run_bind, run_appR t ty e ht hz g cap Z l (M.get i hi) hs hroom gx v (cell_av (M.get j hj) (by decide)) h1, Result.andThen_ok, Sem.run_pure]

/-- A slice with no cell yet, and room for some. -/
theorem pl_make (M : Mem c L w) (hw : Region.wanted o (yielded ops a.tmps) = true) (d : Option Tmp) (hd : o.dst = d) (t e : TypeId) (info : TypeInfo) (zv : Value) (ht : P.underlying t = some (.slice e)) (hin : P.info? e = some info) (hzv : info.zero = some zv) (hsz : info.size = 1) (hby : info.bytes ≤ 16) (x y : Operand) (ho : o.op = .makeSlice t x y) (kx ky : IntKind) (hx : a.eval x = .int kx 0) (cap : Nat) (hy : a.eval y = .int ky (cap : Int)) (hc : cap < 1000000)
    (h : ∀ g Z w', SB Z cap [] → Mem c (L ++ [⟨g, Z⟩]) w' → PL P ops Q rest (a.put d (.slice (some ⟨g, 0, none⟩) 0 cap)) w') : PL P ops Q (o :: rest) a w := by
  have hr := run_make (P := P) w t e info zv ht hin hzv kx ky 0 (cap : Int) (Int.le_refl _) (by omega) (by
    have := Int.mul_le_mul (show (info.bytes : Int) ≤ 16 by omega) (show (cap : Int) ≤ 1000000 by omega) (by omega) (by omega)
    omega) (by omega)
  simp only [Int.toNat_zero, Int.toNat_natCast, hsz, Nat.mul_one] at hr
  refine pl_to hw d hd (.slice (some ⟨w.heap.size, 0, none⟩) 0 cap) _ ?_ (h w.heap.size (.cells (madeCells zv.cells cap) e) (w.alloc (.cells (madeCells zv.cells cap) e)) ⟨_, e, (0, 0), rfl, by simp, by rw [size_madeCells]; exact Nat.le_refl _, fun i hi => by simp at hi, fun i _ => by simp⟩ (M.new _ _ (new_below w _) (heap_alloc_new w _) (Nat.le_refl _)))
  unfold execOp
  simp only [ho, hx, hy, Sem.run_bind, hr, Result.andThen_ok, Sem.run_pure]
end

section
variable {ops : Array Oper} {rest : List Oper} {o : Oper} {a : Act} {w : World} {c : Ctx} {L : List Blk} {Q : Exit → Act → World → Prop}

set_option maxRecDepth 100000 in
theorem pl_back (M : Mem c L w) (hw : Region.wanted o (yielded ops a.tmps) = true) (d : Option Tmp) (hd : o.dst = d) (x : Operand) (ho : o.op = .convert 32 9 x) (i g n cap : Nat) (hx : a.eval x = .slice (some ⟨g, 0, none⟩) n cap) (Z : Obj) (hi : L[i]? = some ⟨g, Z⟩) (l : List Int) (cp : Nat) (hs : SB Z cp (vs8 l)) (hn : l.length = n) (hf : ∀ x ∈ l, 0 ≤ x ∧ x < 256)
    (h : PL Tryz.prog ops Q rest (a.put d (.string (bs l))) w) : PL Tryz.prog ops Q (o :: rest) a w := by
  subst hn
  refine pl_to hw d hd _ w ?_ h
  have hl : (l.map fun n => UInt8.ofNat n.toNat).length = l.length := by simp
  have h2 := run_convert_bytes_back (P := Tryz.prog) w 32 9 5 ⟨g, 0, none⟩ cap (l.map fun n => UInt8.ofNat n.toNat) Tryz.underlying32 Tryz.underlying5 Tryz.underlying9 (fun j hj => by
    rw [hl] at hj
    have hv : (vs8 l)[j]? = some (.int .u8 (l[j]'hj)) := by
      unfold vs8
      rw [List.getElem?_map, List.getElem?_eq_getElem hj]
      rfl
    rw [add_at, Nat.zero_add, hs.cell (M.get i hi) hv]
    have := hf _ (List.getElem_mem hj)
    simp
    omega)
  rw [hl] at h2
  unfold execOp
  simp only [ho, hx, Sem.run_bind, h2, Result.andThen_ok, Sem.run_pure]
  rfl
end

end Go.Proofs.YtmhfmhmpoobmlaaGreatDoor.Sha

/- The steps of a walk, said shortly: what is asked by the kernel alone is not written down. -/
namespace Go.Proofs.YtmhfmhmpoobmlaaGreatDoor.Sha
open Go.RowKit

/-- What an operation is in every world. -/
structure Rn (P : Program) (a : Act) (o : Oper) (v : Value) : Prop where
  out : ∀ w, (execOp a.eval o).run P w = .ok (.value v) w
/-- Which function an operation calls. -/
structure Rc (P : Program) (a : Act) (o : Oper) (f : FuncId) (xs : Array Value) : Prop where
  out : ∀ w, (execOp a.eval o).run P w = .ok (.enter f xs) w
structure Ra (P : Program) (a : Act) (o : Oper) (Z : Obj) : Prop where
  out : ∀ w, (execOp a.eval o).run P w = .ok (.value (.pointer (some ⟨w.heap.size, 0, none⟩))) (w.alloc Z)
structure Ev (a : Act) (x : Operand) (v : Value) : Prop where
  out : a.eval x = v
structure Na (P : Program) (ty : TypeId) : Prop where
  out : ∀ w, (isAgg ty).run P w = .ok false w
theorem isRow_of {P : Program} {ty : TypeId} (h : (P.underlying ty).map TypeDesc.isRow = some true) : ∃ t, P.underlying ty = some t ∧ t.isRow = true := by
  cases e : P.underlying ty with
  | none => rw [e] at h; cases h
  | some t => rw [e] at h; exact ⟨t, rfl, by simpa using h⟩
section
variable {P : Program} {ops : Array Oper} {rest : List Oper} {o : Oper} {a : Act} {w W : World} {c : Ctx} {L : List Blk} {Q : Exit → Act → World → Prop} {K : Act → World → Prop} {R : Act → Prop}
theorem pV (d : Tmp) (v : Value) (h : PL P ops Q rest (a.put (some d) v) w) (hw : Region.wanted o (yielded ops a.tmps) = true := by exact want_no rfl) (hd : o.dst = some d := by exact rfl) (hr : Rn P a o v := by exact ⟨fun _ => by kernel_rfl⟩) : PL P ops Q (o :: rest) a w := pl_val hw (some d) hd v hr.out h
theorem kV (d : Tmp) (v : Value) (h : KL P ops W R rest (a.put (some d) v)) (hw : Region.wanted o (yielded ops a.tmps) = true := by exact want_no rfl) (hd : o.dst = some d := by exact rfl) (hr : Rn P a o v := by exact ⟨fun _ => by kernel_rfl⟩) : KL P ops W R (o :: rest) a := k_val hw (some d) hd v hr.out h
theorem nT (h : K a w) : PL P ops (Exit.then K Q) [] a w := pl_nil (au_then h)
theorem sR {id : Nat} {l : List Oper} {y : Code} (h : PL P l.toArray (Exit.then (y.wp P Q) Q) l a w) : (Code.seq (Code.region id l.toArray false) y).wp P Q a w := wp_seq (rg_lit h)
theorem pN (M : Mem c L w) (d : Tmp) (Z : Obj) (h : ∀ g w', Mem c (L ++ [⟨g, Z⟩]) w' → PL P ops Q rest (a.put (some d) (.pointer (some ⟨g, 0, none⟩))) w') (hw : Region.wanted o (yielded ops a.tmps) = true := by exact want_no rfl) (hd : o.dst = some d := by exact rfl) (hr : Ra P a o Z := by exact ⟨fun _ => by kernel_rfl⟩) : PL P ops Q (o :: rest) a w := pl_new M hw (some d) hd Z hr.out h
theorem pC (M : Mem c L w) (d : Tmp) (f : FuncId) (xs : Array Value) (v : Value) (hc : ∀ w, Mem c L w → Calls P f xs w fun e w' => e = .returned v ∧ Below w.heap.size w w') (h : ∀ w', Mem c L w' → PL P ops Q rest (a.put (some d) v) w') (hw : Region.wanted o (yielded ops a.tmps) = true := by exact want_no rfl) (hd : o.dst = some d := by exact rfl) (hr : Rc P a o f xs := by exact ⟨fun _ => by kernel_rfl⟩) : PL P ops Q (o :: rest) a w := pl_call M hw (some d) hd f xs v hr.out hc h
theorem kC (M : Mem c L W) (d : Tmp) (f : FuncId) (xs : Array Value) (v : Value) (hc : ∀ w, Mem c L w → Calls P f xs w fun e w' => e = .returned v ∧ Below w.heap.size w w') (h : KL P ops W R rest (a.put (some d) v)) (hw : Region.wanted o (yielded ops a.tmps) = true := by exact want_no rfl) (hd : o.dst = some d := by exact rfl) (hr : Rc P a o f xs := by exact ⟨fun _ => by kernel_rfl⟩) : KL P ops W R (o :: rest) a := k_call M hw (some d) hd f xs v hr.out hc h
theorem pE (M : Mem c L w) (d : Tmp) (g off : Nat) (v : Value) (hc : ∀ w, Mem c L w → w.cell? ⟨g, off, none⟩ = some v) (h : PL P ops Q rest (a.put (some d) v) w) {ty : TypeId} {x : Operand} (hw : Region.wanted o (yielded ops a.tmps) = true := by exact want_no rfl) (hd : o.dst = some d := by exact rfl) (ho : o.op = .load ty x := by exact rfl) (hx : Ev a x (.pointer (some ⟨g, off, none⟩)) := by exact ⟨by kernel_rfl⟩) (ha : Na P ty := by exact ⟨fun _ => by kernel_rfl⟩) : PL P ops Q (o :: rest) a w := pl_cell M hw (some d) hd ty x ho g off hx.out v ha.out hc h
theorem kE (M : Mem c L W) (d : Tmp) (g off : Nat) (v : Value) (hc : ∀ w, Mem c L w → w.cell? ⟨g, off, none⟩ = some v) (h : KL P ops W R rest (a.put (some d) v)) {ty : TypeId} {x : Operand} (hw : Region.wanted o (yielded ops a.tmps) = true := by exact want_no rfl) (hd : o.dst = some d := by exact rfl) (ho : o.op = .load ty x := by exact rfl) (hx : Ev a x (.pointer (some ⟨g, off, none⟩)) := by exact ⟨by kernel_rfl⟩) (ha : Na P ty := by exact ⟨fun _ => by kernel_rfl⟩) : KL P ops W R (o :: rest) a := k_cell M hw (some d) hd ty x ho g off hx.out v ha.out hc h
theorem kL (M : Mem c L W) (d : Tmp) (i : Nat) {g n T : Nat} {F : Nat → Value} (hi : L[i]? = some ⟨g, .cells (av n F) T⟩) (off k : Nat) (F' : Nat → Value) (hp : ∀ j, j < k → F (off + j) = F' j) (h : KL P ops W R rest (a.put (some d) (.agg (av k F')))) {ty : TypeId} {x : Operand} (hw : Region.wanted o (yielded ops a.tmps) = true := by exact want_no rfl) (hd : o.dst = some d := by exact rfl) (ho : o.op = .load ty x := by exact rfl) (hx : Ev a x (.pointer (some ⟨g, off, none⟩)) := by exact ⟨by kernel_rfl⟩) (hk : off + k ≤ n := by decide) (hu : (P.underlying ty).map TypeDesc.isRow = some true := by kernel_rfl) (hz : (P.info? ty).map (·.size) = some k := by kernel_rfl) : KL P ops W R (o :: rest) a := by
  obtain ⟨t, h1, h2⟩ := isRow_of hu
  exact k_load M hw (some d) hd ty x ho i g off hx.out n T F hi k F' hp hk t h1 h2 hz h
theorem pA (M : Mem c L w) (d : Tmp) (i n : Nat) (F : Nat → Value) (h : PL P ops Q rest (a.put (some d) (.agg (av n F))) w) {g T : Nat} {ty : TypeId} {x : Operand} (hw : Region.wanted o (yielded ops a.tmps) = true := by exact want_no rfl) (hd : o.dst = some d := by exact rfl) (ho : o.op = .load ty x := by exact rfl) (hi : L[i]? = some ⟨g, .cells (av n F) T⟩ := by exact rfl) (hx : Ev a x (.pointer (some ⟨g, 0, none⟩)) := by exact ⟨by kernel_rfl⟩) (hu : (P.underlying ty).map TypeDesc.isRow = some true := by kernel_rfl) (hz : (P.info? ty).map (·.size) = some n := by kernel_rfl) : PL P ops Q (o :: rest) a w := by
  obtain ⟨t, h1, h2⟩ := isRow_of hu
  exact pl_load M hw (some d) hd ty x ho i g 0 hx.out n T F hi n F (fun j _ => by rw [Nat.zero_add]) (by omega) t h1 h2 hz h
theorem kA (M : Mem c L W) (d : Tmp) (i n : Nat) (F : Nat → Value) (h : KL P ops W R rest (a.put (some d) (.agg (av n F)))) {g T : Nat} {ty : TypeId} {x : Operand} (hw : Region.wanted o (yielded ops a.tmps) = true := by exact want_no rfl) (hd : o.dst = some d := by exact rfl) (ho : o.op = .load ty x := by exact rfl) (hi : L[i]? = some ⟨g, .cells (av n F) T⟩ := by exact rfl) (hx : Ev a x (.pointer (some ⟨g, 0, none⟩)) := by exact ⟨by kernel_rfl⟩) (hu : (P.underlying ty).map TypeDesc.isRow = some true := by kernel_rfl) (hz : (P.info? ty).map (·.size) = some n := by kernel_rfl) : KL P ops W R (o :: rest) a := by
  obtain ⟨t, h1, h2⟩ := isRow_of hu
  exact k_load M hw (some d) hd ty x ho i g 0 hx.out n T F hi n F (fun j _ => by rw [Nat.zero_add]) (by omega) t h1 h2 hz h
theorem pP (M : Mem c L w) (i : Nat) {g n T : Nat} {F : Nat → Value} (hi : L[i]? = some ⟨g, .cells (av n F) T⟩) (off : Nat) (v : Value) (Fn : Nat → Value) (hk : off < n) (hfn : ∀ j, j < n → (if j = off then v else F j) = Fn j) (h : ∀ w', Mem c (L.set i ⟨g, .cells (av n Fn) T⟩) w' → PL P ops Q rest a w') {ty : TypeId} {x y : Operand} (hw : Region.wanted o (yielded ops a.tmps) = true := by exact want_no rfl) (hd : o.dst = none := by exact rfl) (ho : o.op = .store ty x y := by exact rfl) (hx : Ev a x (.pointer (some ⟨g, off, none⟩)) := by exact ⟨by kernel_rfl⟩) (hy : Ev a y v := by exact ⟨by kernel_rfl⟩) (hz : (P.info? ty).map (·.size) = some 1 := by kernel_rfl) (h1 : v.oneCell' = true := by exact rfl) (hc : v.cells = #[v] := by exact rfl) : PL P ops Q (o :: rest) a w :=
  pl_put1 M hw hd ty x y ho i g off hx.out n T F hi v Fn hy.out hz hk h1 hc hfn h
theorem pH (d : Tmp) (v : Value) (hr : ∀ w, (execOp a.eval o).run P w = .ok (.value v) w) (h : PL P ops Q rest (a.put (some d) v) w) (hw : Region.wanted o (yielded ops a.tmps) = true := by exact want_no rfl) (hd : o.dst = some d := by exact rfl) : PL P ops Q (o :: rest) a w := pl_val hw (some d) hd v hr h
theorem kH (d : Tmp) (v : Value) (hr : ∀ w, (execOp a.eval o).run P w = .ok (.value v) w) (h : KL P ops W R rest (a.put (some d) v)) (hw : Region.wanted o (yielded ops a.tmps) = true := by exact want_no rfl) (hd : o.dst = some d := by exact rfl) : KL P ops W R (o :: rest) a := k_val hw (some d) hd v hr h
theorem dT (p : Prop) [Decidable p] (hp : p) (hr : Rn P a o (.bool (decide p)) := by exact ⟨fun _ => by kernel_rfl⟩) (w : World) : (execOp a.eval o).run P w = .ok (.value (.bool true)) w := (hr.out w).trans (by rw [decide_eq_true hp])
theorem dF (p : Prop) [Decidable p] (hp : ¬ p) (hr : Rn P a o (.bool (decide p)) := by exact ⟨fun _ => by kernel_rfl⟩) (w : World) : (execOp a.eval o).run P w = .ok (.value (.bool false)) w := (hr.out w).trans (by rw [decide_eq_false hp])
theorem nF (p : Prop) [Decidable p] (hp : p) (hr : Rn P a o (.bool (!(decide p))) := by exact ⟨fun _ => by kernel_rfl⟩) (w : World) : (execOp a.eval o).run P w = .ok (.value (.bool false)) w := (hr.out w).trans (by rw [decide_eq_true hp]; rfl)
theorem nU (p : Prop) [Decidable p] (hp : ¬ p) (hr : Rn P a o (.bool (!(decide p))) := by exact ⟨fun _ => by kernel_rfl⟩) (w : World) : (execOp a.eval o).run P w = .ok (.value (.bool true)) w := (hr.out w).trans (by rw [decide_eq_false hp]; rfl)
theorem iV (x : Int) {v : Int} (h : x = v) (h0 : -9223372036854775808 ≤ x) (h1 : x < 9223372036854775808) (hr : Rn P a o (.int .i64 (IntKind.wrap .i64 x)) := by exact ⟨fun _ => by kernel_rfl⟩) (w : World) : (execOp a.eval o).run P w = .ok (.value (.int .i64 v)) w := (hr.out w).trans (by
  rw [show IntKind.wrap .i64 x = x by simp [IntKind.wrap, IntKind.signed, IntKind.bits, go_sem]; omega, h])
end
section
variable {P : Program} {ops : Array Oper} {o : Oper} {a : Act} {w : World} {Q : Exit → Act → World → Prop} {S : World → Prop} {n fuel : Nat} {listed : Array Bool}
theorem qV (M : S w) (i : Nat) (d : Tmp) (v : Value) (h : HL P ops Q S n fuel (listed.setIfInBounds i true) (a.put (some d) v) w) (hi : ops.toList[i]? = some o := by exact rfl) (hin : i < n := by decide) (hf : Region.free .any ops listed i = true := by kernel_rfl) (hr : (Region.ready .any ops listed).contains i = true := by kernel_rfl) (hw : Region.wanted o (yielded ops a.tmps) = true := by exact want_no rfl) (hd : o.dst = some d := by exact rfl) (hrun : Rn P a o v := by exact ⟨fun _ => by kernel_rfl⟩) : HL P ops Q S n (fuel + 1) listed a w := hl_val M i hi hin hf hr hw (some d) hd v (fun w _ => hrun.out w) h
end
end Go.Proofs.YtmhfmhmpoobmlaaGreatDoor.Sha

/- Words are turned: the walks of turner, of its closure, of turnedThrice and of turnedAndMoved. -/
namespace Go.Proofs.YtmhfmhmpoobmlaaGreatDoor.Sha
open Go.RowKit

theorem inz34 : (Tryz.prog.info? 34).map (·.size) = some 1 := by kernel_rfl
theorem inz5 : (Tryz.prog.info? 5).map (·.size) = some 1 := by kernel_rfl
theorem inz155 : (Tryz.prog.info? 155).map (·.size) = some 80 := by kernel_rfl
theorem inz95 : (Tryz.prog.info? 95).map (·.size) = some 8 := by kernel_rfl
theorem inz125 : (Tryz.prog.info? 125).map (·.size) = some 138 := by kernel_rfl
theorem inz9 : (Tryz.prog.info? 9).map (·.size) = some 1 := by kernel_rfl

theorem Mem.oldc {c : Ctx} {L : List Blk} {W : World} (M : Mem c L W) {g k : Nat} {v : Value} (hc : c.w.cell? ⟨g, k, none⟩ = some v) (hr : g ∉ c.r) : W.cell? ⟨g, k, none⟩ = some v := by
  have hlt : g < c.w.heap.size := by
    refine Classical.byContradiction fun hn => ?_
    have : c.w.heap[g]? = none := Array.getElem?_eq_none (by omega)
    simp [World.cell?, this] at hc
  rw [← hc]
  unfold World.cell?
  simp only
  rw [M.old.block g hlt hr]

/-- x turned to the right by n. -/
def rot (x : Int) (n : Nat) : Int := uo (sl x (64 - n)) (sr x n)

set_option maxRecDepth 100000 in
set_option maxHeartbeats 4000000 in
theorem c_rl1 (x : Int) (w : World) (hL : Laid w)  :
    Calls Tryz.prog 154 #[.int .u64 x, .int .i64 (-1)] w fun r w' => r = .returned (.int .u64 (rot x 1)) ∧ Below w.heap.size w w' := by
  go_enter Tryz.func154, Tryz.ntmps154
  have M := Mem.start hL
  refine sR ?_
  refine pV 4 (.int .u64 0) ?_
  refine nT ?_
  refine sR ?_
  refine pV 6 (.int .i64 (-1)) ?_
  refine pV 7 (.int .u64 18446744073709551615) ?_
  refine pV 8 (.int .u64 63) ?_
  refine pV 5 (.int .u64 63) ?_
  refine nT ?_
  refine sR ?_
  refine pV 9 (.int .u64 x) ?_
  refine pV 10 (.int .u64 63) ?_
  refine pV 11 (.int .u64 (sl x 63)) ?_
  refine pV 12 (.int .u64 x) ?_
  refine pV 13 (.int .u64 63) ?_
  refine pV 14 (.int .u64 1) ?_
  refine pV 15 (.int .u64 (sr x 1)) ?_
  refine pV 16 (.int .u64 (uo (sl x 63) (sr x 1))) ?_
  refine pV 4 (.int .u64 (uo (sl x 63) (sr x 1))) ?_
  refine nT ?_
  refine wp_ret ?_
  exact bodyPost_ret (v := .int .u64 (uo (sl x 63) (sr x 1))) (results_tmp1 Tryz.results154 _ _ _ (by kernel_rfl)) (by kernel_rfl) ⟨rfl, below_grown M.old⟩

set_option maxRecDepth 100000 in
set_option maxHeartbeats 4000000 in
theorem c_by1 (x : Int) (g : Nat) (w : World) (hL : Laid w) (hg : w.heap[g]? = some (.cells (av 1 (fun _ => .int .u64 x)) 34)) :
    Calls Tryz.prog 153 #[.int .i64 1, .pointer (some ⟨g, 0, none⟩)] w fun r w' => r = .returned (.int .u64 (rot x 1)) ∧ Below w.heap.size w w' := by
  go_enter Tryz.func153, Tryz.ntmps153
  have M := Mem.start hL
  refine sR ?_
  refine pV 3 (.int .u64 0) ?_
  refine nT ?_
  refine sR ?_
  refine pE M 4 g 0 (.int .u64 x) (fun w M => M.oldc (cell_av hg (by decide)) (by simp)) ?_
  refine pV 5 (.int .i64 1) ?_
  refine pV 6 (.int .i64 (-1)) ?_
  refine pC M 7 154 #[.int .u64 x, .int .i64 (-1)] (.int .u64 (rot x 1)) (fun w M => c_rl1 x w M.laid) fun u1 M => ?_
  refine pV 3 (.int .u64 (rot x 1)) ?_
  refine nT ?_
  refine wp_ret ?_
  exact bodyPost_ret (v := .int .u64 (rot x 1)) (results_tmp1 Tryz.results153 _ _ _ (by kernel_rfl)) (by kernel_rfl) ⟨rfl, below_grown M.old⟩

set_option maxRecDepth 100000 in
set_option maxHeartbeats 4000000 in
theorem c_rl8 (x : Int) (w : World) (hL : Laid w)  :
    Calls Tryz.prog 154 #[.int .u64 x, .int .i64 (-8)] w fun r w' => r = .returned (.int .u64 (rot x 8)) ∧ Below w.heap.size w w' := by
  go_enter Tryz.func154, Tryz.ntmps154
  have M := Mem.start hL
  refine sR ?_
  refine pV 4 (.int .u64 0) ?_
  refine nT ?_
  refine sR ?_
  refine pV 6 (.int .i64 (-8)) ?_
  refine pV 7 (.int .u64 18446744073709551608) ?_
  refine pV 8 (.int .u64 56) ?_
  refine pV 5 (.int .u64 56) ?_
  refine nT ?_
  refine sR ?_
  refine pV 9 (.int .u64 x) ?_
  refine pV 10 (.int .u64 56) ?_
  refine pV 11 (.int .u64 (sl x 56)) ?_
  refine pV 12 (.int .u64 x) ?_
  refine pV 13 (.int .u64 56) ?_
  refine pV 14 (.int .u64 8) ?_
  refine pV 15 (.int .u64 (sr x 8)) ?_
  refine pV 16 (.int .u64 (uo (sl x 56) (sr x 8))) ?_
  refine pV 4 (.int .u64 (uo (sl x 56) (sr x 8))) ?_
  refine nT ?_
  refine wp_ret ?_
  exact bodyPost_ret (v := .int .u64 (uo (sl x 56) (sr x 8))) (results_tmp1 Tryz.results154 _ _ _ (by kernel_rfl)) (by kernel_rfl) ⟨rfl, below_grown M.old⟩

set_option maxRecDepth 100000 in
set_option maxHeartbeats 4000000 in
theorem c_by8 (x : Int) (g : Nat) (w : World) (hL : Laid w) (hg : w.heap[g]? = some (.cells (av 1 (fun _ => .int .u64 x)) 34)) :
    Calls Tryz.prog 153 #[.int .i64 8, .pointer (some ⟨g, 0, none⟩)] w fun r w' => r = .returned (.int .u64 (rot x 8)) ∧ Below w.heap.size w w' := by
  go_enter Tryz.func153, Tryz.ntmps153
  have M := Mem.start hL
  refine sR ?_
  refine pV 3 (.int .u64 0) ?_
  refine nT ?_
  refine sR ?_
  refine pE M 4 g 0 (.int .u64 x) (fun w M => M.oldc (cell_av hg (by decide)) (by simp)) ?_
  refine pV 5 (.int .i64 8) ?_
  refine pV 6 (.int .i64 (-8)) ?_
  refine pC M 7 154 #[.int .u64 x, .int .i64 (-8)] (.int .u64 (rot x 8)) (fun w M => c_rl8 x w M.laid) fun u1 M => ?_
  refine pV 3 (.int .u64 (rot x 8)) ?_
  refine nT ?_
  refine wp_ret ?_
  exact bodyPost_ret (v := .int .u64 (rot x 8)) (results_tmp1 Tryz.results153 _ _ _ (by kernel_rfl)) (by kernel_rfl) ⟨rfl, below_grown M.old⟩

set_option maxRecDepth 100000 in
set_option maxHeartbeats 4000000 in
theorem c_rl19 (x : Int) (w : World) (hL : Laid w)  :
    Calls Tryz.prog 154 #[.int .u64 x, .int .i64 (-19)] w fun r w' => r = .returned (.int .u64 (rot x 19)) ∧ Below w.heap.size w w' := by
  go_enter Tryz.func154, Tryz.ntmps154
  have M := Mem.start hL
  refine sR ?_
  refine pV 4 (.int .u64 0) ?_
  refine nT ?_
  refine sR ?_
  refine pV 6 (.int .i64 (-19)) ?_
  refine pV 7 (.int .u64 18446744073709551597) ?_
  refine pV 8 (.int .u64 45) ?_
  refine pV 5 (.int .u64 45) ?_
  refine nT ?_
  refine sR ?_
  refine pV 9 (.int .u64 x) ?_
  refine pV 10 (.int .u64 45) ?_
  refine pV 11 (.int .u64 (sl x 45)) ?_
  refine pV 12 (.int .u64 x) ?_
  refine pV 13 (.int .u64 45) ?_
  refine pV 14 (.int .u64 19) ?_
  refine pV 15 (.int .u64 (sr x 19)) ?_
  refine pV 16 (.int .u64 (uo (sl x 45) (sr x 19))) ?_
  refine pV 4 (.int .u64 (uo (sl x 45) (sr x 19))) ?_
  refine nT ?_
  refine wp_ret ?_
  exact bodyPost_ret (v := .int .u64 (uo (sl x 45) (sr x 19))) (results_tmp1 Tryz.results154 _ _ _ (by kernel_rfl)) (by kernel_rfl) ⟨rfl, below_grown M.old⟩

set_option maxRecDepth 100000 in
set_option maxHeartbeats 4000000 in
theorem c_by19 (x : Int) (g : Nat) (w : World) (hL : Laid w) (hg : w.heap[g]? = some (.cells (av 1 (fun _ => .int .u64 x)) 34)) :
    Calls Tryz.prog 153 #[.int .i64 19, .pointer (some ⟨g, 0, none⟩)] w fun r w' => r = .returned (.int .u64 (rot x 19)) ∧ Below w.heap.size w w' := by
  go_enter Tryz.func153, Tryz.ntmps153
  have M := Mem.start hL
  refine sR ?_
  refine pV 3 (.int .u64 0) ?_
  refine nT ?_
  refine sR ?_
  refine pE M 4 g 0 (.int .u64 x) (fun w M => M.oldc (cell_av hg (by decide)) (by simp)) ?_
  refine pV 5 (.int .i64 19) ?_
  refine pV 6 (.int .i64 (-19)) ?_
  refine pC M 7 154 #[.int .u64 x, .int .i64 (-19)] (.int .u64 (rot x 19)) (fun w M => c_rl19 x w M.laid) fun u1 M => ?_
  refine pV 3 (.int .u64 (rot x 19)) ?_
  refine nT ?_
  refine wp_ret ?_
  exact bodyPost_ret (v := .int .u64 (rot x 19)) (results_tmp1 Tryz.results153 _ _ _ (by kernel_rfl)) (by kernel_rfl) ⟨rfl, below_grown M.old⟩

set_option maxRecDepth 100000 in
set_option maxHeartbeats 4000000 in
theorem c_rl61 (x : Int) (w : World) (hL : Laid w)  :
    Calls Tryz.prog 154 #[.int .u64 x, .int .i64 (-61)] w fun r w' => r = .returned (.int .u64 (rot x 61)) ∧ Below w.heap.size w w' := by
  go_enter Tryz.func154, Tryz.ntmps154
  have M := Mem.start hL
  refine sR ?_
  refine pV 4 (.int .u64 0) ?_
  refine nT ?_
  refine sR ?_
  refine pV 6 (.int .i64 (-61)) ?_
  refine pV 7 (.int .u64 18446744073709551555) ?_
  refine pV 8 (.int .u64 3) ?_
  refine pV 5 (.int .u64 3) ?_
  refine nT ?_
  refine sR ?_
  refine pV 9 (.int .u64 x) ?_
  refine pV 10 (.int .u64 3) ?_
  refine pV 11 (.int .u64 (sl x 3)) ?_
  refine pV 12 (.int .u64 x) ?_
  refine pV 13 (.int .u64 3) ?_
  refine pV 14 (.int .u64 61) ?_
  refine pV 15 (.int .u64 (sr x 61)) ?_
  refine pV 16 (.int .u64 (uo (sl x 3) (sr x 61))) ?_
  refine pV 4 (.int .u64 (uo (sl x 3) (sr x 61))) ?_
  refine nT ?_
  refine wp_ret ?_
  exact bodyPost_ret (v := .int .u64 (uo (sl x 3) (sr x 61))) (results_tmp1 Tryz.results154 _ _ _ (by kernel_rfl)) (by kernel_rfl) ⟨rfl, below_grown M.old⟩

set_option maxRecDepth 100000 in
set_option maxHeartbeats 4000000 in
theorem c_by61 (x : Int) (g : Nat) (w : World) (hL : Laid w) (hg : w.heap[g]? = some (.cells (av 1 (fun _ => .int .u64 x)) 34)) :
    Calls Tryz.prog 153 #[.int .i64 61, .pointer (some ⟨g, 0, none⟩)] w fun r w' => r = .returned (.int .u64 (rot x 61)) ∧ Below w.heap.size w w' := by
  go_enter Tryz.func153, Tryz.ntmps153
  have M := Mem.start hL
  refine sR ?_
  refine pV 3 (.int .u64 0) ?_
  refine nT ?_
  refine sR ?_
  refine pE M 4 g 0 (.int .u64 x) (fun w M => M.oldc (cell_av hg (by decide)) (by simp)) ?_
  refine pV 5 (.int .i64 61) ?_
  refine pV 6 (.int .i64 (-61)) ?_
  refine pC M 7 154 #[.int .u64 x, .int .i64 (-61)] (.int .u64 (rot x 61)) (fun w M => c_rl61 x w M.laid) fun u1 M => ?_
  refine pV 3 (.int .u64 (rot x 61)) ?_
  refine nT ?_
  refine wp_ret ?_
  exact bodyPost_ret (v := .int .u64 (rot x 61)) (results_tmp1 Tryz.results153 _ _ _ (by kernel_rfl)) (by kernel_rfl) ⟨rfl, below_grown M.old⟩

set_option maxRecDepth 100000 in
set_option maxHeartbeats 4000000 in
theorem c_rl14 (x : Int) (w : World) (hL : Laid w)  :
    Calls Tryz.prog 154 #[.int .u64 x, .int .i64 (-14)] w fun r w' => r = .returned (.int .u64 (rot x 14)) ∧ Below w.heap.size w w' := by
  go_enter Tryz.func154, Tryz.ntmps154
  have M := Mem.start hL
  refine sR ?_
  refine pV 4 (.int .u64 0) ?_
  refine nT ?_
  refine sR ?_
  refine pV 6 (.int .i64 (-14)) ?_
  refine pV 7 (.int .u64 18446744073709551602) ?_
  refine pV 8 (.int .u64 50) ?_
  refine pV 5 (.int .u64 50) ?_
  refine nT ?_
  refine sR ?_
  refine pV 9 (.int .u64 x) ?_
  refine pV 10 (.int .u64 50) ?_
  refine pV 11 (.int .u64 (sl x 50)) ?_
  refine pV 12 (.int .u64 x) ?_
  refine pV 13 (.int .u64 50) ?_
  refine pV 14 (.int .u64 14) ?_
  refine pV 15 (.int .u64 (sr x 14)) ?_
  refine pV 16 (.int .u64 (uo (sl x 50) (sr x 14))) ?_
  refine pV 4 (.int .u64 (uo (sl x 50) (sr x 14))) ?_
  refine nT ?_
  refine wp_ret ?_
  exact bodyPost_ret (v := .int .u64 (uo (sl x 50) (sr x 14))) (results_tmp1 Tryz.results154 _ _ _ (by kernel_rfl)) (by kernel_rfl) ⟨rfl, below_grown M.old⟩

set_option maxRecDepth 100000 in
set_option maxHeartbeats 4000000 in
theorem c_by14 (x : Int) (g : Nat) (w : World) (hL : Laid w) (hg : w.heap[g]? = some (.cells (av 1 (fun _ => .int .u64 x)) 34)) :
    Calls Tryz.prog 153 #[.int .i64 14, .pointer (some ⟨g, 0, none⟩)] w fun r w' => r = .returned (.int .u64 (rot x 14)) ∧ Below w.heap.size w w' := by
  go_enter Tryz.func153, Tryz.ntmps153
  have M := Mem.start hL
  refine sR ?_
  refine pV 3 (.int .u64 0) ?_
  refine nT ?_
  refine sR ?_
  refine pE M 4 g 0 (.int .u64 x) (fun w M => M.oldc (cell_av hg (by decide)) (by simp)) ?_
  refine pV 5 (.int .i64 14) ?_
  refine pV 6 (.int .i64 (-14)) ?_
  refine pC M 7 154 #[.int .u64 x, .int .i64 (-14)] (.int .u64 (rot x 14)) (fun w M => c_rl14 x w M.laid) fun u1 M => ?_
  refine pV 3 (.int .u64 (rot x 14)) ?_
  refine nT ?_
  refine wp_ret ?_
  exact bodyPost_ret (v := .int .u64 (rot x 14)) (results_tmp1 Tryz.results153 _ _ _ (by kernel_rfl)) (by kernel_rfl) ⟨rfl, below_grown M.old⟩

set_option maxRecDepth 100000 in
set_option maxHeartbeats 4000000 in
theorem c_rl18 (x : Int) (w : World) (hL : Laid w)  :
    Calls Tryz.prog 154 #[.int .u64 x, .int .i64 (-18)] w fun r w' => r = .returned (.int .u64 (rot x 18)) ∧ Below w.heap.size w w' := by
  go_enter Tryz.func154, Tryz.ntmps154
  have M := Mem.start hL
  refine sR ?_
  refine pV 4 (.int .u64 0) ?_
  refine nT ?_
  refine sR ?_
  refine pV 6 (.int .i64 (-18)) ?_
  refine pV 7 (.int .u64 18446744073709551598) ?_
  refine pV 8 (.int .u64 46) ?_
  refine pV 5 (.int .u64 46) ?_
  refine nT ?_
  refine sR ?_
  refine pV 9 (.int .u64 x) ?_
  refine pV 10 (.int .u64 46) ?_
  refine pV 11 (.int .u64 (sl x 46)) ?_
  refine pV 12 (.int .u64 x) ?_
  refine pV 13 (.int .u64 46) ?_
  refine pV 14 (.int .u64 18) ?_
  refine pV 15 (.int .u64 (sr x 18)) ?_
  refine pV 16 (.int .u64 (uo (sl x 46) (sr x 18))) ?_
  refine pV 4 (.int .u64 (uo (sl x 46) (sr x 18))) ?_
  refine nT ?_
  refine wp_ret ?_
  exact bodyPost_ret (v := .int .u64 (uo (sl x 46) (sr x 18))) (results_tmp1 Tryz.results154 _ _ _ (by kernel_rfl)) (by kernel_rfl) ⟨rfl, below_grown M.old⟩

set_option maxRecDepth 100000 in
set_option maxHeartbeats 4000000 in
theorem c_by18 (x : Int) (g : Nat) (w : World) (hL : Laid w) (hg : w.heap[g]? = some (.cells (av 1 (fun _ => .int .u64 x)) 34)) :
    Calls Tryz.prog 153 #[.int .i64 18, .pointer (some ⟨g, 0, none⟩)] w fun r w' => r = .returned (.int .u64 (rot x 18)) ∧ Below w.heap.size w w' := by
  go_enter Tryz.func153, Tryz.ntmps153
  have M := Mem.start hL
  refine sR ?_
  refine pV 3 (.int .u64 0) ?_
  refine nT ?_
  refine sR ?_
  refine pE M 4 g 0 (.int .u64 x) (fun w M => M.oldc (cell_av hg (by decide)) (by simp)) ?_
  refine pV 5 (.int .i64 18) ?_
  refine pV 6 (.int .i64 (-18)) ?_
  refine pC M 7 154 #[.int .u64 x, .int .i64 (-18)] (.int .u64 (rot x 18)) (fun w M => c_rl18 x w M.laid) fun u1 M => ?_
  refine pV 3 (.int .u64 (rot x 18)) ?_
  refine nT ?_
  refine wp_ret ?_
  exact bodyPost_ret (v := .int .u64 (rot x 18)) (results_tmp1 Tryz.results153 _ _ _ (by kernel_rfl)) (by kernel_rfl) ⟨rfl, below_grown M.old⟩

set_option maxRecDepth 100000 in
set_option maxHeartbeats 4000000 in
theorem c_rl41 (x : Int) (w : World) (hL : Laid w)  :
    Calls Tryz.prog 154 #[.int .u64 x, .int .i64 (-41)] w fun r w' => r = .returned (.int .u64 (rot x 41)) ∧ Below w.heap.size w w' := by
  go_enter Tryz.func154, Tryz.ntmps154
  have M := Mem.start hL
  refine sR ?_
  refine pV 4 (.int .u64 0) ?_
  refine nT ?_
  refine sR ?_
  refine pV 6 (.int .i64 (-41)) ?_
  refine pV 7 (.int .u64 18446744073709551575) ?_
  refine pV 8 (.int .u64 23) ?_
  refine pV 5 (.int .u64 23) ?_
  refine nT ?_
  refine sR ?_
  refine pV 9 (.int .u64 x) ?_
  refine pV 10 (.int .u64 23) ?_
  refine pV 11 (.int .u64 (sl x 23)) ?_
  refine pV 12 (.int .u64 x) ?_
  refine pV 13 (.int .u64 23) ?_
  refine pV 14 (.int .u64 41) ?_
  refine pV 15 (.int .u64 (sr x 41)) ?_
  refine pV 16 (.int .u64 (uo (sl x 23) (sr x 41))) ?_
  refine pV 4 (.int .u64 (uo (sl x 23) (sr x 41))) ?_
  refine nT ?_
  refine wp_ret ?_
  exact bodyPost_ret (v := .int .u64 (uo (sl x 23) (sr x 41))) (results_tmp1 Tryz.results154 _ _ _ (by kernel_rfl)) (by kernel_rfl) ⟨rfl, below_grown M.old⟩

set_option maxRecDepth 100000 in
set_option maxHeartbeats 4000000 in
theorem c_by41 (x : Int) (g : Nat) (w : World) (hL : Laid w) (hg : w.heap[g]? = some (.cells (av 1 (fun _ => .int .u64 x)) 34)) :
    Calls Tryz.prog 153 #[.int .i64 41, .pointer (some ⟨g, 0, none⟩)] w fun r w' => r = .returned (.int .u64 (rot x 41)) ∧ Below w.heap.size w w' := by
  go_enter Tryz.func153, Tryz.ntmps153
  have M := Mem.start hL
  refine sR ?_
  refine pV 3 (.int .u64 0) ?_
  refine nT ?_
  refine sR ?_
  refine pE M 4 g 0 (.int .u64 x) (fun w M => M.oldc (cell_av hg (by decide)) (by simp)) ?_
  refine pV 5 (.int .i64 41) ?_
  refine pV 6 (.int .i64 (-41)) ?_
  refine pC M 7 154 #[.int .u64 x, .int .i64 (-41)] (.int .u64 (rot x 41)) (fun w M => c_rl41 x w M.laid) fun u1 M => ?_
  refine pV 3 (.int .u64 (rot x 41)) ?_
  refine nT ?_
  refine wp_ret ?_
  exact bodyPost_ret (v := .int .u64 (rot x 41)) (results_tmp1 Tryz.results153 _ _ _ (by kernel_rfl)) (by kernel_rfl) ⟨rfl, below_grown M.old⟩

set_option maxRecDepth 100000 in
set_option maxHeartbeats 4000000 in
theorem c_rl28 (x : Int) (w : World) (hL : Laid w)  :
    Calls Tryz.prog 154 #[.int .u64 x, .int .i64 (-28)] w fun r w' => r = .returned (.int .u64 (rot x 28)) ∧ Below w.heap.size w w' := by
  go_enter Tryz.func154, Tryz.ntmps154
  have M := Mem.start hL
  refine sR ?_
  refine pV 4 (.int .u64 0) ?_
  refine nT ?_
  refine sR ?_
  refine pV 6 (.int .i64 (-28)) ?_
  refine pV 7 (.int .u64 18446744073709551588) ?_
  refine pV 8 (.int .u64 36) ?_
  refine pV 5 (.int .u64 36) ?_
  refine nT ?_
  refine sR ?_
  refine pV 9 (.int .u64 x) ?_
  refine pV 10 (.int .u64 36) ?_
  refine pV 11 (.int .u64 (sl x 36)) ?_
  refine pV 12 (.int .u64 x) ?_
  refine pV 13 (.int .u64 36) ?_
  refine pV 14 (.int .u64 28) ?_
  refine pV 15 (.int .u64 (sr x 28)) ?_
  refine pV 16 (.int .u64 (uo (sl x 36) (sr x 28))) ?_
  refine pV 4 (.int .u64 (uo (sl x 36) (sr x 28))) ?_
  refine nT ?_
  refine wp_ret ?_
  exact bodyPost_ret (v := .int .u64 (uo (sl x 36) (sr x 28))) (results_tmp1 Tryz.results154 _ _ _ (by kernel_rfl)) (by kernel_rfl) ⟨rfl, below_grown M.old⟩

set_option maxRecDepth 100000 in
set_option maxHeartbeats 4000000 in
theorem c_by28 (x : Int) (g : Nat) (w : World) (hL : Laid w) (hg : w.heap[g]? = some (.cells (av 1 (fun _ => .int .u64 x)) 34)) :
    Calls Tryz.prog 153 #[.int .i64 28, .pointer (some ⟨g, 0, none⟩)] w fun r w' => r = .returned (.int .u64 (rot x 28)) ∧ Below w.heap.size w w' := by
  go_enter Tryz.func153, Tryz.ntmps153
  have M := Mem.start hL
  refine sR ?_
  refine pV 3 (.int .u64 0) ?_
  refine nT ?_
  refine sR ?_
  refine pE M 4 g 0 (.int .u64 x) (fun w M => M.oldc (cell_av hg (by decide)) (by simp)) ?_
  refine pV 5 (.int .i64 28) ?_
  refine pV 6 (.int .i64 (-28)) ?_
  refine pC M 7 154 #[.int .u64 x, .int .i64 (-28)] (.int .u64 (rot x 28)) (fun w M => c_rl28 x w M.laid) fun u1 M => ?_
  refine pV 3 (.int .u64 (rot x 28)) ?_
  refine nT ?_
  refine wp_ret ?_
  exact bodyPost_ret (v := .int .u64 (rot x 28)) (results_tmp1 Tryz.results153 _ _ _ (by kernel_rfl)) (by kernel_rfl) ⟨rfl, below_grown M.old⟩

set_option maxRecDepth 100000 in
set_option maxHeartbeats 4000000 in
theorem c_rl34 (x : Int) (w : World) (hL : Laid w)  :
    Calls Tryz.prog 154 #[.int .u64 x, .int .i64 (-34)] w fun r w' => r = .returned (.int .u64 (rot x 34)) ∧ Below w.heap.size w w' := by
  go_enter Tryz.func154, Tryz.ntmps154
  have M := Mem.start hL
  refine sR ?_
  refine pV 4 (.int .u64 0) ?_
  refine nT ?_
  refine sR ?_
  refine pV 6 (.int .i64 (-34)) ?_
  refine pV 7 (.int .u64 18446744073709551582) ?_
  refine pV 8 (.int .u64 30) ?_
  refine pV 5 (.int .u64 30) ?_
  refine nT ?_
  refine sR ?_
  refine pV 9 (.int .u64 x) ?_
  refine pV 10 (.int .u64 30) ?_
  refine pV 11 (.int .u64 (sl x 30)) ?_
  refine pV 12 (.int .u64 x) ?_
  refine pV 13 (.int .u64 30) ?_
  refine pV 14 (.int .u64 34) ?_
  refine pV 15 (.int .u64 (sr x 34)) ?_
  refine pV 16 (.int .u64 (uo (sl x 30) (sr x 34))) ?_
  refine pV 4 (.int .u64 (uo (sl x 30) (sr x 34))) ?_
  refine nT ?_
  refine wp_ret ?_
  exact bodyPost_ret (v := .int .u64 (uo (sl x 30) (sr x 34))) (results_tmp1 Tryz.results154 _ _ _ (by kernel_rfl)) (by kernel_rfl) ⟨rfl, below_grown M.old⟩

set_option maxRecDepth 100000 in
set_option maxHeartbeats 4000000 in
theorem c_by34 (x : Int) (g : Nat) (w : World) (hL : Laid w) (hg : w.heap[g]? = some (.cells (av 1 (fun _ => .int .u64 x)) 34)) :
    Calls Tryz.prog 153 #[.int .i64 34, .pointer (some ⟨g, 0, none⟩)] w fun r w' => r = .returned (.int .u64 (rot x 34)) ∧ Below w.heap.size w w' := by
  go_enter Tryz.func153, Tryz.ntmps153
  have M := Mem.start hL
  refine sR ?_
  refine pV 3 (.int .u64 0) ?_
  refine nT ?_
  refine sR ?_
  refine pE M 4 g 0 (.int .u64 x) (fun w M => M.oldc (cell_av hg (by decide)) (by simp)) ?_
  refine pV 5 (.int .i64 34) ?_
  refine pV 6 (.int .i64 (-34)) ?_
  refine pC M 7 154 #[.int .u64 x, .int .i64 (-34)] (.int .u64 (rot x 34)) (fun w M => c_rl34 x w M.laid) fun u1 M => ?_
  refine pV 3 (.int .u64 (rot x 34)) ?_
  refine nT ?_
  refine wp_ret ?_
  exact bodyPost_ret (v := .int .u64 (rot x 34)) (results_tmp1 Tryz.results153 _ _ _ (by kernel_rfl)) (by kernel_rfl) ⟨rfl, below_grown M.old⟩

set_option maxRecDepth 100000 in
set_option maxHeartbeats 4000000 in
theorem c_rl39 (x : Int) (w : World) (hL : Laid w)  :
    Calls Tryz.prog 154 #[.int .u64 x, .int .i64 (-39)] w fun r w' => r = .returned (.int .u64 (rot x 39)) ∧ Below w.heap.size w w' := by
  go_enter Tryz.func154, Tryz.ntmps154
  have M := Mem.start hL
  refine sR ?_
  refine pV 4 (.int .u64 0) ?_
  refine nT ?_
  refine sR ?_
  refine pV 6 (.int .i64 (-39)) ?_
  refine pV 7 (.int .u64 18446744073709551577) ?_
  refine pV 8 (.int .u64 25) ?_
  refine pV 5 (.int .u64 25) ?_
  refine nT ?_
  refine sR ?_
  refine pV 9 (.int .u64 x) ?_
  refine pV 10 (.int .u64 25) ?_
  refine pV 11 (.int .u64 (sl x 25)) ?_
  refine pV 12 (.int .u64 x) ?_
  refine pV 13 (.int .u64 25) ?_
  refine pV 14 (.int .u64 39) ?_
  refine pV 15 (.int .u64 (sr x 39)) ?_
  refine pV 16 (.int .u64 (uo (sl x 25) (sr x 39))) ?_
  refine pV 4 (.int .u64 (uo (sl x 25) (sr x 39))) ?_
  refine nT ?_
  refine wp_ret ?_
  exact bodyPost_ret (v := .int .u64 (uo (sl x 25) (sr x 39))) (results_tmp1 Tryz.results154 _ _ _ (by kernel_rfl)) (by kernel_rfl) ⟨rfl, below_grown M.old⟩

set_option maxRecDepth 100000 in
set_option maxHeartbeats 4000000 in
theorem c_by39 (x : Int) (g : Nat) (w : World) (hL : Laid w) (hg : w.heap[g]? = some (.cells (av 1 (fun _ => .int .u64 x)) 34)) :
    Calls Tryz.prog 153 #[.int .i64 39, .pointer (some ⟨g, 0, none⟩)] w fun r w' => r = .returned (.int .u64 (rot x 39)) ∧ Below w.heap.size w w' := by
  go_enter Tryz.func153, Tryz.ntmps153
  have M := Mem.start hL
  refine sR ?_
  refine pV 3 (.int .u64 0) ?_
  refine nT ?_
  refine sR ?_
  refine pE M 4 g 0 (.int .u64 x) (fun w M => M.oldc (cell_av hg (by decide)) (by simp)) ?_
  refine pV 5 (.int .i64 39) ?_
  refine pV 6 (.int .i64 (-39)) ?_
  refine pC M 7 154 #[.int .u64 x, .int .i64 (-39)] (.int .u64 (rot x 39)) (fun w M => c_rl39 x w M.laid) fun u1 M => ?_
  refine pV 3 (.int .u64 (rot x 39)) ?_
  refine nT ?_
  refine wp_ret ?_
  exact bodyPost_ret (v := .int .u64 (rot x 39)) (results_tmp1 Tryz.results153 _ _ _ (by kernel_rfl)) (by kernel_rfl) ⟨rfl, below_grown M.old⟩

set_option maxRecDepth 100000 in
set_option maxHeartbeats 4000000 in
theorem c_turner (x : Int) (w : World) (hL : Laid w)  :
    Calls Tryz.prog 152 #[.int .u64 x] w fun r w' => ∃ g, r = .returned (.func (.func 153) #[] #[.pointer (some ⟨g, 0, none⟩)]) ∧ w.heap.size ≤ g ∧ w'.heap[g]? = some (.cells (av 1 (fun _ => .int .u64 x)) 34) ∧ Below w.heap.size w w' := by
  go_enter Tryz.func152, Tryz.ntmps152
  have M := Mem.start hL
  refine sR ?_
  refine pN M 1 (.cells (av 1 (fun _ => .int .u64 x)) 34) fun g1 u1 M => ?_
  refine pV 2 (Value.nilFunc) ?_
  refine nT ?_
  refine sR ?_
  refine pV 3 (.func (.func 153) #[] #[.pointer (some ⟨g1, 0, none⟩)]) ?_
  refine pV 2 (.func (.func 153) #[] #[.pointer (some ⟨g1, 0, none⟩)]) ?_
  refine nT ?_
  refine wp_ret ?_
  exact bodyPost_ret (v := .func (.func 153) #[] #[.pointer (some ⟨g1, 0, none⟩)]) (results_tmp1 Tryz.results152 _ _ _ (by kernel_rfl)) (by kernel_rfl) ⟨g1, rfl, (M.ge _ (List.mem_singleton.2 rfl)).elim id (fun h => by cases h), M.get 0 rfl, below_grown M.old⟩

set_option maxRecDepth 100000 in
set_option maxHeartbeats 4000000 in
theorem c_thr14 (x : Int) (w : World) (hL : Laid w)  :
    Calls Tryz.prog 151 #[.int .u64 x, .int .i64 14, .int .i64 18, .int .i64 41] w fun r w' => r = .returned (.int .u64 (ux (ux (rot x 14) (rot x 18)) (rot x 41))) ∧ Below w.heap.size w w' := by
  go_enter Tryz.func151, Tryz.ntmps151
  have M := Mem.start hL
  refine sR ?_
  refine pV 8 (.int .u64 0) ?_
  refine nT ?_
  refine sR ?_
  refine pV 10 (.int .u64 x) ?_
  refine pl_calln M (want_no rfl) (some 11) rfl 152 #[.int .u64 x] (fun g1 => .func (.func 153) #[] #[.pointer (some ⟨g1, 0, none⟩)]) (.cells (av 1 (fun _ => .int .u64 x)) 34) (fun _ => by kernel_rfl) (fun w M => c_turner x w M.laid) fun g1 u1 M => ?_
  refine pV 9 (.func (.func 153) #[] #[.pointer (some ⟨g1, 0, none⟩)]) ?_
  refine nT ?_
  refine sR ?_
  refine pV 12 (.func (.func 153) #[] #[.pointer (some ⟨g1, 0, none⟩)]) ?_
  refine pV 13 (.int .i64 14) ?_
  refine pC M 14 153 #[.int .i64 14, .pointer (some ⟨g1, 0, none⟩)] (.int .u64 (rot x 14)) (fun w M => c_by14 x g1 w M.laid (M.get 0 rfl)) fun u2 M => ?_
  refine pV 15 (.func (.func 153) #[] #[.pointer (some ⟨g1, 0, none⟩)]) ?_
  refine pV 16 (.int .i64 18) ?_
  refine pC M 17 153 #[.int .i64 18, .pointer (some ⟨g1, 0, none⟩)] (.int .u64 (rot x 18)) (fun w M => c_by18 x g1 w M.laid (M.get 0 rfl)) fun u3 M => ?_
  refine pV 18 (.int .u64 (ux (rot x 14) (rot x 18))) ?_
  refine pV 19 (.func (.func 153) #[] #[.pointer (some ⟨g1, 0, none⟩)]) ?_
  refine pV 20 (.int .i64 41) ?_
  refine pC M 21 153 #[.int .i64 41, .pointer (some ⟨g1, 0, none⟩)] (.int .u64 (rot x 41)) (fun w M => c_by41 x g1 w M.laid (M.get 0 rfl)) fun u4 M => ?_
  refine pV 22 (.int .u64 (ux (ux (rot x 14) (rot x 18)) (rot x 41))) ?_
  refine pV 8 (.int .u64 (ux (ux (rot x 14) (rot x 18)) (rot x 41))) ?_
  refine nT ?_
  refine wp_ret ?_
  exact bodyPost_ret (v := .int .u64 (ux (ux (rot x 14) (rot x 18)) (rot x 41))) (results_tmp1 Tryz.results151 _ _ _ (by kernel_rfl)) (by kernel_rfl) ⟨rfl, below_grown M.old⟩

set_option maxRecDepth 100000 in
set_option maxHeartbeats 4000000 in
theorem c_thr28 (x : Int) (w : World) (hL : Laid w)  :
    Calls Tryz.prog 151 #[.int .u64 x, .int .i64 28, .int .i64 34, .int .i64 39] w fun r w' => r = .returned (.int .u64 (ux (ux (rot x 28) (rot x 34)) (rot x 39))) ∧ Below w.heap.size w w' := by
  go_enter Tryz.func151, Tryz.ntmps151
  have M := Mem.start hL
  refine sR ?_
  refine pV 8 (.int .u64 0) ?_
  refine nT ?_
  refine sR ?_
  refine pV 10 (.int .u64 x) ?_
  refine pl_calln M (want_no rfl) (some 11) rfl 152 #[.int .u64 x] (fun g1 => .func (.func 153) #[] #[.pointer (some ⟨g1, 0, none⟩)]) (.cells (av 1 (fun _ => .int .u64 x)) 34) (fun _ => by kernel_rfl) (fun w M => c_turner x w M.laid) fun g1 u1 M => ?_
  refine pV 9 (.func (.func 153) #[] #[.pointer (some ⟨g1, 0, none⟩)]) ?_
  refine nT ?_
  refine sR ?_
  refine pV 12 (.func (.func 153) #[] #[.pointer (some ⟨g1, 0, none⟩)]) ?_
  refine pV 13 (.int .i64 28) ?_
  refine pC M 14 153 #[.int .i64 28, .pointer (some ⟨g1, 0, none⟩)] (.int .u64 (rot x 28)) (fun w M => c_by28 x g1 w M.laid (M.get 0 rfl)) fun u2 M => ?_
  refine pV 15 (.func (.func 153) #[] #[.pointer (some ⟨g1, 0, none⟩)]) ?_
  refine pV 16 (.int .i64 34) ?_
  refine pC M 17 153 #[.int .i64 34, .pointer (some ⟨g1, 0, none⟩)] (.int .u64 (rot x 34)) (fun w M => c_by34 x g1 w M.laid (M.get 0 rfl)) fun u3 M => ?_
  refine pV 18 (.int .u64 (ux (rot x 28) (rot x 34))) ?_
  refine pV 19 (.func (.func 153) #[] #[.pointer (some ⟨g1, 0, none⟩)]) ?_
  refine pV 20 (.int .i64 39) ?_
  refine pC M 21 153 #[.int .i64 39, .pointer (some ⟨g1, 0, none⟩)] (.int .u64 (rot x 39)) (fun w M => c_by39 x g1 w M.laid (M.get 0 rfl)) fun u4 M => ?_
  refine pV 22 (.int .u64 (ux (ux (rot x 28) (rot x 34)) (rot x 39))) ?_
  refine pV 8 (.int .u64 (ux (ux (rot x 28) (rot x 34)) (rot x 39))) ?_
  refine nT ?_
  refine wp_ret ?_
  exact bodyPost_ret (v := .int .u64 (ux (ux (rot x 28) (rot x 34)) (rot x 39))) (results_tmp1 Tryz.results151 _ _ _ (by kernel_rfl)) (by kernel_rfl) ⟨rfl, below_grown M.old⟩

set_option maxRecDepth 100000 in
set_option maxHeartbeats 4000000 in
theorem c_mov1 (x : Int) (w : World) (hL : Laid w)  :
    Calls Tryz.prog 150 #[.int .u64 x, .int .i64 1, .int .i64 8, .int .i64 7] w fun r w' => r = .returned (.int .u64 (ux (ux (rot x 1) (rot x 8)) (sr x 7))) ∧ Below w.heap.size w w' := by
  go_enter Tryz.func150, Tryz.ntmps150
  have M := Mem.start hL
  refine sR ?_
  refine pV 8 (.int .u64 0) ?_
  refine nT ?_
  refine sR ?_
  refine pV 10 (.int .u64 x) ?_
  refine pl_calln M (want_no rfl) (some 11) rfl 152 #[.int .u64 x] (fun g1 => .func (.func 153) #[] #[.pointer (some ⟨g1, 0, none⟩)]) (.cells (av 1 (fun _ => .int .u64 x)) 34) (fun _ => by kernel_rfl) (fun w M => c_turner x w M.laid) fun g1 u1 M => ?_
  refine pV 9 (.func (.func 153) #[] #[.pointer (some ⟨g1, 0, none⟩)]) ?_
  refine nT ?_
  refine wp_seq ?_
  refine rg_tail M 11 (by kernel_rfl) (by kernel_rfl) ?_
  simp only [List.take_succ_cons, List.take_zero]
  refine kV 12 (.func (.func 153) #[] #[.pointer (some ⟨g1, 0, none⟩)]) ?_
  refine kV 13 (.int .i64 1) ?_
  refine kC M 14 153 #[.int .i64 1, .pointer (some ⟨g1, 0, none⟩)] (.int .u64 (rot x 1)) (fun w M => c_by1 x g1 w M.laid (M.get 0 rfl)) ?_
  refine kV 15 (.func (.func 153) #[] #[.pointer (some ⟨g1, 0, none⟩)]) ?_
  refine kV 16 (.int .i64 8) ?_
  refine kC M 17 153 #[.int .i64 8, .pointer (some ⟨g1, 0, none⟩)] (.int .u64 (rot x 8)) (fun w M => c_by8 x g1 w M.laid (M.get 0 rfl)) ?_
  refine kV 18 (.int .u64 (ux (rot x 1) (rot x 8))) ?_
  refine kV 19 (.int .u64 x) ?_
  refine kV 20 (.int .i64 7) ?_
  refine kV 21 (.int .u64 (sr x 7)) ?_
  refine kV 22 (.int .u64 (ux (ux (rot x 1) (rot x 8)) (sr x 7))) ?_
  refine kl_nil fun u2 M => ?_
  refine pV 8 (.int .u64 (ux (ux (rot x 1) (rot x 8)) (sr x 7))) ?_
  refine nT ?_
  refine wp_ret ?_
  exact bodyPost_ret (v := .int .u64 (ux (ux (rot x 1) (rot x 8)) (sr x 7))) (results_tmp1 Tryz.results150 _ _ _ (by kernel_rfl)) (by kernel_rfl) ⟨rfl, below_grown M.old⟩

set_option maxRecDepth 100000 in
set_option maxHeartbeats 4000000 in
theorem c_mov19 (x : Int) (w : World) (hL : Laid w)  :
    Calls Tryz.prog 150 #[.int .u64 x, .int .i64 19, .int .i64 61, .int .i64 6] w fun r w' => r = .returned (.int .u64 (ux (ux (rot x 19) (rot x 61)) (sr x 6))) ∧ Below w.heap.size w w' := by
  go_enter Tryz.func150, Tryz.ntmps150
  have M := Mem.start hL
  refine sR ?_
  refine pV 8 (.int .u64 0) ?_
  refine nT ?_
  refine sR ?_
  refine pV 10 (.int .u64 x) ?_
  refine pl_calln M (want_no rfl) (some 11) rfl 152 #[.int .u64 x] (fun g1 => .func (.func 153) #[] #[.pointer (some ⟨g1, 0, none⟩)]) (.cells (av 1 (fun _ => .int .u64 x)) 34) (fun _ => by kernel_rfl) (fun w M => c_turner x w M.laid) fun g1 u1 M => ?_
  refine pV 9 (.func (.func 153) #[] #[.pointer (some ⟨g1, 0, none⟩)]) ?_
  refine nT ?_
  refine wp_seq ?_
  refine rg_tail M 11 (by kernel_rfl) (by kernel_rfl) ?_
  simp only [List.take_succ_cons, List.take_zero]
  refine kV 12 (.func (.func 153) #[] #[.pointer (some ⟨g1, 0, none⟩)]) ?_
  refine kV 13 (.int .i64 19) ?_
  refine kC M 14 153 #[.int .i64 19, .pointer (some ⟨g1, 0, none⟩)] (.int .u64 (rot x 19)) (fun w M => c_by19 x g1 w M.laid (M.get 0 rfl)) ?_
  refine kV 15 (.func (.func 153) #[] #[.pointer (some ⟨g1, 0, none⟩)]) ?_
  refine kV 16 (.int .i64 61) ?_
  refine kC M 17 153 #[.int .i64 61, .pointer (some ⟨g1, 0, none⟩)] (.int .u64 (rot x 61)) (fun w M => c_by61 x g1 w M.laid (M.get 0 rfl)) ?_
  refine kV 18 (.int .u64 (ux (rot x 19) (rot x 61))) ?_
  refine kV 19 (.int .u64 x) ?_
  refine kV 20 (.int .i64 6) ?_
  refine kV 21 (.int .u64 (sr x 6)) ?_
  refine kV 22 (.int .u64 (ux (ux (rot x 19) (rot x 61)) (sr x 6))) ?_
  refine kl_nil fun u2 M => ?_
  refine pV 8 (.int .u64 (ux (ux (rot x 19) (rot x 61)) (sr x 6))) ?_
  refine nT ?_
  refine wp_ret ?_
  exact bodyPost_ret (v := .int .u64 (ux (ux (rot x 19) (rot x 61)) (sr x 6))) (results_tmp1 Tryz.results150 _ _ _ (by kernel_rfl)) (by kernel_rfl) ⟨rfl, below_grown M.old⟩


end Go.Proofs.YtmhfmhmpoobmlaaGreatDoor.Sha

/- One round: the walk of stepped. -/
namespace Go.Proofs.YtmhfmhmpoobmlaaGreatDoor.Sha
open Go.RowKit

def shf (x : Nat → Int) : Nat → Int := fun j => if 1 ≤ j ∧ j < 8 then x (j - 1) else x j
def bS1 (e : Int) : Int := ux (ux (rot e 14) (rot e 18)) (rot e 41)
def bS0 (a : Int) : Int := ux (ux (rot a 28) (rot a 34)) (rot a 39)
def lS0 (a : Int) : Int := ux (ux (rot a 1) (rot a 8)) (sr a 7)
def lS1 (a : Int) : Int := ux (ux (rot a 19) (rot a 61)) (sr a 6)
def chF (e f g : Int) : Int := ux (un e f) (un (ut e) g)
def majF (a b c : Int) : Int := ux (ux (un a b) (un a c)) (un b c)
def uF (x : Nat → Int) (comes : Int) : Int := ua (ua (ua (x 7) (bS1 (x 4))) (chF (x 4) (x 5) (x 6))) comes
def vF (x : Nat → Int) : Int := ua (bS0 (x 0)) (majF (x 0) (x 1) (x 2))
def r8 (a b c d e f g h : Int) : Nat → Int
  | 0 => a
  | 1 => b
  | 2 => c
  | 3 => d
  | 4 => e
  | 5 => f
  | 6 => g
  | 7 => h
  | _ => 0
def st8 (x : Nat → Int) (comes : Int) : Nat → Int := r8 (ua (uF x comes) (vF x)) (x 0) (x 1) (x 2) (ua (x 3) (uF x comes)) (x 4) (x 5) (x 6)
theorem lt8 {p : Nat → Prop} (h : p 0 ∧ p 1 ∧ p 2 ∧ p 3 ∧ p 4 ∧ p 5 ∧ p 6 ∧ p 7) : ∀ i, i < 8 → p i
  | 0, _ => h.1
  | 1, _ => h.2.1
  | 2, _ => h.2.2.1
  | 3, _ => h.2.2.2.1
  | 4, _ => h.2.2.2.2.1
  | 5, _ => h.2.2.2.2.2.1
  | 6, _ => h.2.2.2.2.2.2.1
  | 7, _ => h.2.2.2.2.2.2.2
  | n + 8, h => absurd h (by omega)
theorem st8_av (x : Nat → Int) (comes : Int) : av 8 (w64 (upd (upd (shf x) 0 (ua (uF x comes) (vF x))) 4 (ua ((upd (shf x) 0 (ua (uF x comes) (vF x))) 4) (uF x comes)))) = av 8 (w64 (st8 x comes)) := by
  refine av_congr fun i hi => ?_
  unfold w64
  congr 1
  revert i
  exact lt8 ⟨by simp [upd, st8, r8], by simp [upd, shf, st8, r8], by simp [upd, shf, st8, r8], by simp [upd, shf, st8, r8], by simp [upd, shf, st8, r8], by simp [upd, shf, st8, r8], by simp [upd, shf, st8, r8], by simp [upd, shf, st8, r8]⟩
set_option maxRecDepth 100000 in
set_option maxHeartbeats 4000000 in
theorem c_stepped (x : Nat → Int) (comes : Int) (w : World) (hL : Laid w)  :
    Calls Tryz.prog 146 #[.agg (av 8 (w64 x)), .int .u64 comes] w fun r w' => r = .returned (.agg (av 8 (w64 (st8 x comes)))) ∧ Below w.heap.size w w' := by
  go_enter Tryz.func146, Tryz.ntmps146
  have M := Mem.start hL
  refine sR ?_
  refine pN M 2 (.cells (av 8 (w64 x)) 95) fun g1 u1 M => ?_
  refine pN M 4 (.cells (av 8 (w64 fun _ => 0)) 95) fun g2 u2 M => ?_
  refine nT ?_
  refine wp_seq ?_
  refine rg_tail M 8 (by kernel_rfl) (by kernel_rfl) ?_
  simp only [List.take_succ_cons, List.take_zero]
  refine kV 13 (.pointer (some ⟨g1, 0, none⟩)) ?_
  refine kE M 14 g1 0 (.int .u64 (x 0)) (fun w M => M.cell 0 rfl (by decide) rfl) ?_
  refine kV 15 (.pointer (some ⟨g1, 1, none⟩)) ?_
  refine kE M 16 g1 1 (.int .u64 (x 1)) (fun w M => M.cell 0 rfl (by decide) rfl) ?_
  refine kV 17 (.pointer (some ⟨g1, 2, none⟩)) ?_
  refine kE M 18 g1 2 (.int .u64 (x 2)) (fun w M => M.cell 0 rfl (by decide) rfl) ?_
  refine kV 5 (.int .u64 (x 0)) ?_
  refine kV 6 (.int .u64 (x 1)) ?_
  refine kl_nil fun u3 M => ?_
  refine pV 7 (.int .u64 (x 2)) ?_
  refine nT ?_
  refine wp_seq ?_
  refine rg_tail M 8 (by kernel_rfl) (by kernel_rfl) ?_
  simp only [List.take_succ_cons, List.take_zero]
  refine kV 19 (.pointer (some ⟨g1, 4, none⟩)) ?_
  refine kE M 20 g1 4 (.int .u64 (x 4)) (fun w M => M.cell 0 rfl (by decide) rfl) ?_
  refine kV 21 (.pointer (some ⟨g1, 5, none⟩)) ?_
  refine kE M 22 g1 5 (.int .u64 (x 5)) (fun w M => M.cell 0 rfl (by decide) rfl) ?_
  refine kV 23 (.pointer (some ⟨g1, 6, none⟩)) ?_
  refine kE M 24 g1 6 (.int .u64 (x 6)) (fun w M => M.cell 0 rfl (by decide) rfl) ?_
  refine kV 8 (.int .u64 (x 4)) ?_
  refine kV 9 (.int .u64 (x 5)) ?_
  refine kl_nil fun u4 M => ?_
  refine pV 10 (.int .u64 (x 6)) ?_
  refine nT ?_
  refine wp_seq ?_
  refine rg_tail M 16 (by kernel_rfl) (by kernel_rfl) ?_
  simp only [List.take_succ_cons, List.take_zero]
  refine kV 25 (.pointer (some ⟨g1, 7, none⟩)) ?_
  refine kE M 26 g1 7 (.int .u64 (x 7)) (fun w M => M.cell 0 rfl (by decide) rfl) ?_
  refine kV 27 (.int .u64 (x 4)) ?_
  refine kC M 28 151 #[.int .u64 (x 4), .int .i64 14, .int .i64 18, .int .i64 41] (.int .u64 (bS1 (x 4))) (fun w M => c_thr14 (x 4) w M.laid) ?_
  refine kV 29 (.int .u64 (ua (x 7) (bS1 (x 4)))) ?_
  refine kV 30 (.int .u64 (x 4)) ?_
  refine kV 31 (.int .u64 (x 5)) ?_
  refine kV 32 (.int .u64 (un (x 4) (x 5))) ?_
  refine kV 33 (.int .u64 (x 4)) ?_
  refine kV 34 (.int .u64 (ut (x 4))) ?_
  refine kV 35 (.int .u64 (x 6)) ?_
  refine kV 36 (.int .u64 (un (ut (x 4)) (x 6))) ?_
  refine kV 37 (.int .u64 (ux (un (x 4) (x 5)) (un (ut (x 4)) (x 6)))) ?_
  refine kV 38 (.int .u64 (ua (ua (x 7) (bS1 (x 4))) (ux (un (x 4) (x 5)) (un (ut (x 4)) (x 6))))) ?_
  refine kV 39 (.int .u64 comes) ?_
  refine kV 40 (.int .u64 (ua (ua (ua (x 7) (bS1 (x 4))) (ux (un (x 4) (x 5)) (un (ut (x 4)) (x 6)))) comes)) ?_
  refine kl_nil fun u5 M => ?_
  refine pV 11 (.int .u64 (uF x comes)) ?_
  refine nT ?_
  refine sR ?_
  refine pV 41 (.int .u64 (x 0)) ?_
  refine pC M 42 151 #[.int .u64 (x 0), .int .i64 28, .int .i64 34, .int .i64 39] (.int .u64 (bS0 (x 0))) (fun w M => c_thr28 (x 0) w M.laid) fun u6 M => ?_
  refine pV 43 (.int .u64 (x 0)) ?_
  refine pV 44 (.int .u64 (x 1)) ?_
  refine pV 45 (.int .u64 (un (x 0) (x 1))) ?_
  refine pV 46 (.int .u64 (x 0)) ?_
  refine pV 47 (.int .u64 (x 2)) ?_
  refine pV 48 (.int .u64 (un (x 0) (x 2))) ?_
  refine pV 49 (.int .u64 (ux (un (x 0) (x 1)) (un (x 0) (x 2)))) ?_
  refine pV 50 (.int .u64 (x 1)) ?_
  refine pV 51 (.int .u64 (x 2)) ?_
  refine pV 52 (.int .u64 (un (x 1) (x 2))) ?_
  refine pV 53 (.int .u64 (ux (ux (un (x 0) (x 1)) (un (x 0) (x 2))) (un (x 1) (x 2)))) ?_
  refine pV 54 (.int .u64 (ua (bS0 (x 0)) (ux (ux (un (x 0) (x 1)) (un (x 0) (x 2))) (un (x 1) (x 2))))) ?_
  refine pV 12 (.int .u64 (vF x)) ?_
  refine nT ?_
  refine wp_seq ?_
  refine rg_tail M 2 (by kernel_rfl) (by kernel_rfl) ?_
  simp only [List.take_succ_cons, List.take_zero]
  refine kV 55 (.slice (some ⟨g1, 1, none⟩) 7 7) ?_
  refine kV 56 (.slice (some ⟨g1, 0, none⟩) 7 8) ?_
  refine kl_nil fun u7 M => ?_
  refine pl_copyA M (want_no rfl) (some 57) rfl 127 127 3 34 Tryz.underlying127 inz34 0 g1 8 95 (w64 x) rfl 1 7 7 0 7 8 7 rfl (by decide) (by decide) (fun _ _ => rfl) (w64 (shf x)) (fun j hj => by unfold w64 shf; split <;> (congr 2; try omega)) (fun _ => by kernel_rfl) fun u8 M => ?_
  refine nT ?_
  refine sR ?_
  refine pV 58 (.int .u64 (uF x comes)) ?_
  refine pV 59 (.int .u64 (vF x)) ?_
  refine pV 60 (.int .u64 (ua (uF x comes) (vF x))) ?_
  refine pV 61 (.pointer (some ⟨g1, 0, none⟩)) ?_
  refine pP M 0 rfl 0 (.int .u64 (ua (uF x comes) (vF x))) (w64 (upd (shf x) 0 (ua (uF x comes) (vF x)))) (by decide) (fun j _ => put_w64 _ _ _ j) fun u9 M => ?_
  refine nT ?_
  refine sR ?_
  refine pV 62 (.pointer (some ⟨g1, 4, none⟩)) ?_
  refine pE M 63 g1 4 (.int .u64 ((upd (shf x) 0 (ua (uF x comes) (vF x))) 4)) (fun w M => M.cell 0 rfl (by decide) rfl) ?_
  refine pV 64 (.int .u64 (uF x comes)) ?_
  refine pV 65 (.int .u64 (ua ((upd (shf x) 0 (ua (uF x comes) (vF x))) 4) (uF x comes))) ?_
  refine pV 66 (.pointer (some ⟨g1, 4, none⟩)) ?_
  refine pP M 0 rfl 4 (.int .u64 (ua ((upd (shf x) 0 (ua (uF x comes) (vF x))) 4) (uF x comes))) (w64 (upd (upd (shf x) 0 (ua (uF x comes) (vF x))) 4 (ua ((upd (shf x) 0 (ua (uF x comes) (vF x))) 4) (uF x comes)))) (by decide) (fun j _ => put_w64 _ _ _ j) fun u10 M => ?_
  refine nT ?_
  refine sR ?_
  refine pA M 67 0 8 (w64 (upd (upd (shf x) 0 (ua (uF x comes) (vF x))) 4 (ua ((upd (shf x) 0 (ua (uF x comes) (vF x))) 4) (uF x comes)))) ?_
  refine pl_put M (want_no rfl) rfl 95 _ _ rfl 1 g2 0 (by kernel_rfl) 8 95 (w64 fun _ => 0) rfl 8 (w64 (upd (upd (shf x) 0 (ua (uF x comes) (vF x))) 4 (ua ((upd (shf x) 0 (ua (uF x comes) (vF x))) 4) (uF x comes)))) (w64 (upd (upd (shf x) 0 (ua (uF x comes) (vF x))) 4 (ua ((upd (shf x) 0 (ua (uF x comes) (vF x))) 4) (uF x comes)))) (by kernel_rfl) inz95 (by decide) (fun _ _ => rfl) (fun j hj => by rw [if_pos (by omega), Nat.sub_zero]) fun u11 M => ?_
  refine nT ?_
  refine wp_ret ?_
  have e := st8_av x comes
  refine bodyPost_ret (v := .agg (av 8 (w64 (st8 x comes)))) (Eq.trans (b := .ok (.agg (av 8 (w64 (upd (upd (shf x) 0 (ua (uF x comes) (vF x))) 4 (ua ((upd (shf x) 0 (ua (uF x comes) (vF x))) 4) (uF x comes)))))) _) (results_cell_row Tryz.results146 _ _ g2 95 (av 8 (w64 (upd (upd (shf x) 0 (ua (uF x comes) (vF x))) 4 (ua ((upd (shf x) 0 (ua (uF x comes) (vF x))) 4) (uF x comes))))) (0, 0) _ (by kernel_rfl) (M.get 1 rfl) Tryz.underlying95 rfl (by rw [av_size]; exact inz95)) (by rw [show av 8 (w64 (upd (upd (shf x) 0 (ua (uF x comes) (vF x))) 4 (ua ((upd (shf x) 0 (ua (uF x comes) (vF x))) 4) (uF x comes)))) = av 8 (w64 (st8 x comes)) from e])) (by kernel_rfl) ⟨rfl, below_grown M.old⟩


end Go.Proofs.YtmhfmhmpoobmlaaGreatDoor.Sha

/- A block is mixed into the words: the walks of spreadOut and of mixed. -/
namespace Go.Proofs.YtmhfmhmpoobmlaaGreatDoor.Sha
open Go.RowKit

theorem wrap64 {x : Int} (h0 : -9223372036854775808 ≤ x) (h1 : x < 9223372036854775808) : IntKind.wrap .i64 x = x := by
  simp [IntKind.wrap, IntKind.signed, IntKind.bits, go_sem]
  omega
theorem quo8 (j : Nat) (hj : j < 1000000) : IntKind.wrap .i64 ((j : Int).tdiv 8) = ((j / 8 : Nat) : Int) := by
  rw [Int.tdiv_eq_ediv_of_nonneg (by omega), wrap64 (by omega) (by omega)]
  omega
def sp1 (rs : Nat → Int) : Nat → (Nat → Int)
  | 0 => fun _ => 0
  | j + 1 => upd (sp1 rs j) (j / 8) (uo (sl (sp1 rs j (j / 8)) 8) (cv .u64 (rs j)))
def sp2 (rs : Nat → Int) : Nat → (Nat → Int)
  | 0 => sp1 rs 128
  | j + 1 => upd (sp2 rs j) (16 + j) (ua (ua (ua (sp2 rs j j) (lS0 (sp2 rs j (j + 1)))) (sp2 rs j (j + 9))) (lS1 (sp2 rs j (j + 14))))
def rd (x rs : Nat → Int) : Nat → (Nat → Int)
  | 0 => x
  | j + 1 => st8 (rd x rs j) (ua (KF j) (sp2 rs 64 j))
def ad (x y : Nat → Int) : Nat → (Nat → Int)
  | 0 => x
  | j + 1 => upd (ad x y j) j (ua (ad x y j j) (y j))
def mixV (x rs : Nat → Int) : Nat → Int := fun i => ua (x i) (rd x rs 80 i)
theorem ad_av (x y : Nat → Int) : av 8 (w64 (ad x y 8)) = av 8 (w64 fun i => ua (x i) (y i)) := by
  refine av_congr fun i hi => ?_
  unfold w64
  congr 1
  revert i
  exact lt8 ⟨by simp [ad, upd], by simp [ad, upd], by simp [ad, upd], by simp [ad, upd], by simp [ad, upd], by simp [ad, upd], by simp [ad, upd], by simp [ad, upd]⟩

set_option maxRecDepth 100000 in
set_option maxHeartbeats 4000000 in
theorem c_spread (rs : Nat → Int) (w : World) (hL : Laid w)  :
    Calls Tryz.prog 145 #[.agg (av 128 (w8 rs))] w fun r w' => r = .returned (.agg (av 80 (w64 (sp2 rs 64)))) ∧ Below w.heap.size w w' := by
  go_enter Tryz.func145, Tryz.ntmps145
  have M := Mem.start hL
  refine sR ?_
  refine pN M 1 (.cells (av 128 (w8 rs)) 123) fun g1 u1 M => ?_
  refine pN M 2 (.cells (av 80 (w64 fun _ => 0)) 155) fun g2 u2 M => ?_
  refine nT ?_
  refine sR ?_
  refine pN M 3 (.cells (av 80 (w64 fun _ => 0)) 155) fun g3 u3 M => ?_
  refine nT ?_
  refine wp_seq ?_
  refine sR ?_
  refine pA M 7 0 128 (w8 rs) ?_
  refine pV 8 (.int .i64 0) ?_
  refine nT ?_
  refine wp_block ?_
  refine au_loop (fun j a w' => ∃ v1 : Nat → Value, a = ⟨#[.agg (av 128 (w8 rs)), .pointer (some ⟨g1, 0, none⟩), .pointer (some ⟨g2, 0, none⟩), .pointer (some ⟨g3, 0, none⟩), v1 4, v1 5, undef, .agg (av 128 (w8 rs)), .int .i64 (j : Int), v1 9, v1 10, v1 11, v1 12, v1 13, v1 14, v1 15, v1 16, v1 17, v1 18, v1 19, v1 20, v1 21, v1 22, v1 23, undef, undef, undef, undef, undef, undef, undef, undef, undef, undef, undef, undef, undef, undef, undef, undef, undef, undef, undef, undef, undef, undef, undef, undef, undef, undef, undef, undef], []⟩ ∧ Mem ⟨w, []⟩ [⟨g1, .cells (av 128 (w8 rs)) 123⟩, ⟨g2, .cells (av 80 (w64 fun _ => 0)) 155⟩, ⟨g3, .cells (av 80 (w64 (sp1 rs j))) 155⟩] w') 128 ⟨fun k => ([undef, undef, undef, undef, undef, undef, undef, undef, undef, undef, undef, undef, undef, undef, undef, undef, undef, undef, undef, undef] : List Value).getD (k - 4) undef, by kernel_rfl, M⟩ ?_ ?_
  · intro j a u0 hj hI
    obtain ⟨v1, rfl, M⟩ := hI
    refine sR ?_
    refine pH 9 (.bool true) (dT ((j : Int) < 128) (by omega)) ?_
    refine nT ?_
    refine wp_seq ?_
    refine wp_cond_true (by kernel_rfl) ?_
    refine wp_skip ?_
    refine au_then ?_
    refine wp_seq ?_
    refine wp_block ?_
    refine sR ?_
    refine pV 10 (.int .i64 (j : Int)) ?_
    refine pH 11 (.int .u8 (rs (j))) (run_ixA 123 128 5 Tryz.underlying123 inz5 (fun _ => by kernel_rfl) _ _ rfl (w8 rs) (by kernel_rfl) .i64 (j) (by kernel_rfl) (by omega) rfl) ?_
    refine pV 4 (.int .i64 (j : Int)) ?_
    refine pV 5 (.int .u8 (rs (j))) ?_
    refine nT ?_
    refine rg_lit ?_
    refine pV 12 (.int .i64 (j : Int)) ?_
    refine pH 13 (.int .i64 ((j / 8 : Nat) : Int)) (fun w => Eq.trans (b := .ok (.value (.int .i64 (IntKind.wrap .i64 ((j : Int).tdiv 8)))) w) (by kernel_rfl) (by rw [quo8 j (by omega)])) ?_
    refine pV 14 (.int .i64 (j : Int)) ?_
    refine pH 15 (.int .i64 ((j / 8 : Nat) : Int)) (fun w => Eq.trans (b := .ok (.value (.int .i64 (IntKind.wrap .i64 ((j : Int).tdiv 8)))) w) (by kernel_rfl) (by rw [quo8 j (by omega)])) ?_
    refine pH 16 (.pointer (some ⟨g3, ((j / 8 : Nat)), none⟩)) (run_ix1 155 80 34 Tryz.underlying155 inz34 _ _ rfl g3 (by kernel_rfl) .i64 ((j / 8 : Nat)) (by kernel_rfl) (by omega)) ?_
    refine pE M 17 g3 ((j / 8 : Nat)) (.int .u64 ((sp1 rs j) ((j / 8 : Nat)))) (fun w M => M.cell 2 rfl (by omega) rfl) ?_
    refine pV 18 (.int .u64 (sl ((sp1 rs j) ((j / 8 : Nat))) 8)) ?_
    refine pV 19 (.int .u8 (rs (j))) ?_
    refine pV 20 (.int .u64 (cv .u64 (rs (j)))) ?_
    refine pV 21 (.int .u64 (uo (sl ((sp1 rs j) ((j / 8 : Nat))) 8) (cv .u64 (rs (j))))) ?_
    refine pH 22 (.pointer (some ⟨g3, ((j / 8 : Nat)), none⟩)) (run_ix1 155 80 34 Tryz.underlying155 inz34 _ _ rfl g3 (by kernel_rfl) .i64 ((j / 8 : Nat)) (by kernel_rfl) (by omega)) ?_
    refine pP M 2 rfl ((j / 8 : Nat)) (.int .u64 (uo (sl ((sp1 rs j) ((j / 8 : Nat))) 8) (cv .u64 (rs (j))))) (w64 (upd (sp1 rs j) ((j / 8 : Nat)) (uo (sl ((sp1 rs j) ((j / 8 : Nat))) 8) (cv .u64 (rs (j)))))) (by omega) (fun j _ => put_w64 _ _ _ j) fun u4 M => ?_
    refine pl_nil ?_
    refine au_block ?_
    refine au_then ?_
    refine rg_lit ?_
    refine pH 23 (.int .i64 ((j + 1 : Nat) : Int)) (iV ((j : Int) + 1) (by omega) (by omega) (by omega)) ?_
    refine pV 8 (.int .i64 ((j + 1 : Nat) : Int)) ?_
    refine nT ?_
    exact ⟨fun k => ([.int .i64 (j : Int), .int .u8 (rs (j)), undef, undef, undef, .bool true, .int .i64 (j : Int), .int .u8 (rs (j)), .int .i64 (j : Int), .int .i64 ((j / 8 : Nat) : Int), .int .i64 (j : Int), .int .i64 ((j / 8 : Nat) : Int), .pointer (some ⟨g3, ((j / 8 : Nat)), none⟩), .int .u64 ((sp1 rs j) ((j / 8 : Nat))), .int .u64 (sl ((sp1 rs j) ((j / 8 : Nat))) 8), .int .u8 (rs (j)), .int .u64 (cv .u64 (rs (j))), .int .u64 (uo (sl ((sp1 rs j) ((j / 8 : Nat))) 8) (cv .u64 (rs (j)))), .pointer (some ⟨g3, ((j / 8 : Nat)), none⟩), .int .i64 ((j + 1 : Nat) : Int)] : List Value).getD (k - 4) undef, by kernel_rfl, M⟩
  · intro a u0 hI
    obtain ⟨v1, rfl, M⟩ := hI
    refine sR ?_
    refine pH 9 (.bool false) (dF (128 < 128) (by omega)) ?_
    refine nT ?_
    refine wp_seq ?_
    refine wp_cond_false (by kernel_rfl) ?_
    refine wp_exit ?_
    refine au_then_exit ?_
    refine au_then_exit ?_
    refine au_block_exit ?_
    refine au_then ?_
    refine wp_seq ?_
    refine sR ?_
    refine pV 6 (.int .i64 16) ?_
    refine nT ?_
    refine wp_block ?_
    refine au_loop (fun j a w' => ∃ v2 : Nat → Value, a = ⟨#[.agg (av 128 (w8 rs)), .pointer (some ⟨g1, 0, none⟩), .pointer (some ⟨g2, 0, none⟩), .pointer (some ⟨g3, 0, none⟩), v1 4, v1 5, .int .i64 ((16 + j : Nat) : Int), .agg (av 128 (w8 rs)), .int .i64 (128 : Int), .bool false, v1 10, v1 11, v1 12, v1 13, v1 14, v1 15, v1 16, v1 17, v1 18, v1 19, v1 20, v1 21, v1 22, v1 23, v2 24, v2 25, v2 26, v2 27, v2 28, v2 29, v2 30, v2 31, v2 32, v2 33, v2 34, v2 35, v2 36, v2 37, v2 38, v2 39, v2 40, v2 41, v2 42, v2 43, v2 44, v2 45, v2 46, v2 47, v2 48, v2 49, v2 50, undef], []⟩ ∧ Mem ⟨w, []⟩ [⟨g1, .cells (av 128 (w8 rs)) 123⟩, ⟨g2, .cells (av 80 (w64 fun _ => 0)) 155⟩, ⟨g3, .cells (av 80 (w64 (sp2 rs j))) 155⟩] w') 64 ⟨fun k => ([undef, undef, undef, undef, undef, undef, undef, undef, undef, undef, undef, undef, undef, undef, undef, undef, undef, undef, undef, undef, undef, undef, undef, undef, undef, undef, undef] : List Value).getD (k - 24) undef, by kernel_rfl, M⟩ ?_ ?_
    · intro j a u0 hj hI
      obtain ⟨v2, rfl, M⟩ := hI
      refine wp_seq ?_
      refine sR ?_
      refine pV 24 (.int .i64 ((16 + j : Nat) : Int)) ?_
      refine pH 25 (.bool true) (dT (((16 + j : Nat) : Int) < 80) (by omega)) ?_
      refine nT ?_
      refine wp_cond_true (by kernel_rfl) ?_
      refine wp_skip ?_
      refine au_then ?_
      refine wp_seq ?_
      refine wp_block ?_
      refine rg_tail M 23 (by kernel_rfl) (by kernel_rfl) ?_
      simp only [List.take_succ_cons, List.take_zero]
      refine kV 28 (.int .i64 ((16 + j : Nat) : Int)) ?_
      refine kV 29 (.int .i64 ((16 + j : Nat) : Int)) ?_
      refine kH 30 (.int .i64 (j : Int)) (iV (((16 + j : Nat) : Int) - 16) (by omega) (by omega) (by omega)) ?_
      refine kH 31 (.pointer (some ⟨g3, j, none⟩)) (run_ix1 155 80 34 Tryz.underlying155 inz34 _ _ rfl g3 (by kernel_rfl) .i64 (j) (by kernel_rfl) (by omega)) ?_
      refine kE M 32 g3 j (.int .u64 ((sp2 rs j) j)) (fun w M => M.cell 2 rfl (by omega) rfl) ?_
      refine kV 33 (.int .i64 ((16 + j : Nat) : Int)) ?_
      refine kH 34 (.int .i64 ((j + 1 : Nat) : Int)) (iV (((16 + j : Nat) : Int) - 15) (by omega) (by omega) (by omega)) ?_
      refine kH 35 (.pointer (some ⟨g3, ((j + 1 : Nat)), none⟩)) (run_ix1 155 80 34 Tryz.underlying155 inz34 _ _ rfl g3 (by kernel_rfl) .i64 ((j + 1 : Nat)) (by kernel_rfl) (by omega)) ?_
      refine kE M 36 g3 ((j + 1 : Nat)) (.int .u64 ((sp2 rs j) ((j + 1 : Nat)))) (fun w M => M.cell 2 rfl (by omega) rfl) ?_
      refine kC M 37 150 #[.int .u64 ((sp2 rs j) ((j + 1 : Nat))), .int .i64 1, .int .i64 8, .int .i64 7] (.int .u64 (lS0 ((sp2 rs j) ((j + 1 : Nat))))) (fun w M => c_mov1 ((sp2 rs j) ((j + 1 : Nat))) w M.laid) ?_
      refine kV 38 (.int .u64 (ua ((sp2 rs j) j) (lS0 ((sp2 rs j) ((j + 1 : Nat)))))) ?_
      refine kV 39 (.int .i64 ((16 + j : Nat) : Int)) ?_
      refine kH 40 (.int .i64 ((j + 9 : Nat) : Int)) (iV (((16 + j : Nat) : Int) - 7) (by omega) (by omega) (by omega)) ?_
      refine kH 41 (.pointer (some ⟨g3, ((j + 9 : Nat)), none⟩)) (run_ix1 155 80 34 Tryz.underlying155 inz34 _ _ rfl g3 (by kernel_rfl) .i64 ((j + 9 : Nat)) (by kernel_rfl) (by omega)) ?_
      refine kE M 42 g3 ((j + 9 : Nat)) (.int .u64 ((sp2 rs j) ((j + 9 : Nat)))) (fun w M => M.cell 2 rfl (by omega) rfl) ?_
      refine kV 43 (.int .u64 (ua (ua ((sp2 rs j) j) (lS0 ((sp2 rs j) ((j + 1 : Nat))))) ((sp2 rs j) ((j + 9 : Nat))))) ?_
      refine kV 44 (.int .i64 ((16 + j : Nat) : Int)) ?_
      refine kH 45 (.int .i64 ((j + 14 : Nat) : Int)) (iV (((16 + j : Nat) : Int) - 2) (by omega) (by omega) (by omega)) ?_
      refine kH 46 (.pointer (some ⟨g3, ((j + 14 : Nat)), none⟩)) (run_ix1 155 80 34 Tryz.underlying155 inz34 _ _ rfl g3 (by kernel_rfl) .i64 ((j + 14 : Nat)) (by kernel_rfl) (by omega)) ?_
      refine kE M 47 g3 ((j + 14 : Nat)) (.int .u64 ((sp2 rs j) ((j + 14 : Nat)))) (fun w M => M.cell 2 rfl (by omega) rfl) ?_
      refine kC M 48 150 #[.int .u64 ((sp2 rs j) ((j + 14 : Nat))), .int .i64 19, .int .i64 61, .int .i64 6] (.int .u64 (lS1 ((sp2 rs j) ((j + 14 : Nat))))) (fun w M => c_mov19 ((sp2 rs j) ((j + 14 : Nat))) w M.laid) ?_
      refine kV 49 (.int .u64 (ua (ua (ua ((sp2 rs j) j) (lS0 ((sp2 rs j) ((j + 1 : Nat))))) ((sp2 rs j) ((j + 9 : Nat)))) (lS1 ((sp2 rs j) ((j + 14 : Nat)))))) ?_
      refine kH 50 (.pointer (some ⟨g3, ((16 + j : Nat)), none⟩)) (run_ix1 155 80 34 Tryz.underlying155 inz34 _ _ rfl g3 (by kernel_rfl) .i64 ((16 + j : Nat)) (by kernel_rfl) (by omega)) ?_
      refine kl_nil fun u5 M => ?_
      refine pP M 2 rfl ((16 + j : Nat)) (.int .u64 (ua (ua (ua ((sp2 rs j) j) (lS0 ((sp2 rs j) ((j + 1 : Nat))))) ((sp2 rs j) ((j + 9 : Nat)))) (lS1 ((sp2 rs j) ((j + 14 : Nat)))))) (w64 (upd (sp2 rs j) ((16 + j : Nat)) (ua (ua (ua ((sp2 rs j) j) (lS0 ((sp2 rs j) ((j + 1 : Nat))))) ((sp2 rs j) ((j + 9 : Nat)))) (lS1 ((sp2 rs j) ((j + 14 : Nat))))))) (by omega) (fun j _ => put_w64 _ _ _ j) fun u6 M => ?_
      refine pl_nil ?_
      refine au_block ?_
      refine au_then ?_
      refine rg_lit ?_
      refine pV 26 (.int .i64 ((16 + j : Nat) : Int)) ?_
      refine pH 27 (.int .i64 ((16 + (j + 1) : Nat) : Int)) (iV (((16 + j : Nat) : Int) + 1) (by omega) (by omega) (by omega)) ?_
      refine pV 6 (.int .i64 ((16 + (j + 1) : Nat) : Int)) ?_
      refine nT ?_
      exact ⟨fun k => ([.int .i64 ((16 + j : Nat) : Int), .bool true, .int .i64 ((16 + j : Nat) : Int), .int .i64 ((16 + (j + 1) : Nat) : Int), .int .i64 ((16 + j : Nat) : Int), .int .i64 ((16 + j : Nat) : Int), .int .i64 (j : Int), .pointer (some ⟨g3, j, none⟩), .int .u64 ((sp2 rs j) j), .int .i64 ((16 + j : Nat) : Int), .int .i64 ((j + 1 : Nat) : Int), .pointer (some ⟨g3, ((j + 1 : Nat)), none⟩), .int .u64 ((sp2 rs j) ((j + 1 : Nat))), .int .u64 (lS0 ((sp2 rs j) ((j + 1 : Nat)))), .int .u64 (ua ((sp2 rs j) j) (lS0 ((sp2 rs j) ((j + 1 : Nat))))), .int .i64 ((16 + j : Nat) : Int), .int .i64 ((j + 9 : Nat) : Int), .pointer (some ⟨g3, ((j + 9 : Nat)), none⟩), .int .u64 ((sp2 rs j) ((j + 9 : Nat))), .int .u64 (ua (ua ((sp2 rs j) j) (lS0 ((sp2 rs j) ((j + 1 : Nat))))) ((sp2 rs j) ((j + 9 : Nat)))), .int .i64 ((16 + j : Nat) : Int), .int .i64 ((j + 14 : Nat) : Int), .pointer (some ⟨g3, ((j + 14 : Nat)), none⟩), .int .u64 ((sp2 rs j) ((j + 14 : Nat))), .int .u64 (lS1 ((sp2 rs j) ((j + 14 : Nat)))), .int .u64 (ua (ua (ua ((sp2 rs j) j) (lS0 ((sp2 rs j) ((j + 1 : Nat))))) ((sp2 rs j) ((j + 9 : Nat)))) (lS1 ((sp2 rs j) ((j + 14 : Nat))))), .pointer (some ⟨g3, ((16 + j : Nat)), none⟩)] : List Value).getD (k - 24) undef, by kernel_rfl, M⟩
    · intro a u0 hI
      obtain ⟨v2, rfl, M⟩ := hI
      refine wp_seq ?_
      refine sR ?_
      refine pV 24 (.int .i64 ((16 + 64 : Nat) : Int)) ?_
      refine pH 25 (.bool false) (dF (((16 + 64 : Nat) : Int) < 80) (by omega)) ?_
      refine nT ?_
      refine wp_cond_false (by kernel_rfl) ?_
      refine wp_exit ?_
      refine au_then_exit ?_
      refine au_then_exit ?_
      refine au_block_exit ?_
      refine au_then ?_
      refine sR ?_
      refine pA M 51 2 80 (w64 (sp2 rs 64)) ?_
      refine pl_put M (want_no rfl) rfl 155 _ _ rfl 1 g2 0 (by kernel_rfl) 80 155 (w64 fun _ => 0) rfl 80 (w64 (sp2 rs 64)) (w64 (sp2 rs 64)) (by kernel_rfl) inz155 (by decide) (fun _ _ => rfl) (fun j hj => by rw [if_pos (by omega), Nat.sub_zero]) fun u7 M => ?_
      refine nT ?_
      refine wp_ret ?_
      exact bodyPost_ret (v := .agg (av 80 (w64 (sp2 rs 64)))) (results_cell_row Tryz.results145 _ _ g2 155 (av 80 (w64 (sp2 rs 64))) (0, 0) _ (by kernel_rfl) (M.get 1 rfl) Tryz.underlying155 rfl (by rw [av_size]; exact inz155)) (by kernel_rfl) ⟨rfl, below_grown M.old⟩

set_option maxRecDepth 100000 in
set_option maxHeartbeats 4000000 in
theorem c_mixed (x rs : Nat → Int) (w : World) (hL : Laid w)  :
    Calls Tryz.prog 138 #[.agg (av 8 (w64 x)), .agg (av 128 (w8 rs))] w fun r w' => r = .returned (.agg (av 8 (w64 (mixV x rs)))) ∧ Below w.heap.size w w' := by
  go_enter Tryz.func138, Tryz.ntmps138
  have M := Mem.start hL
  refine sR ?_
  refine pN M 2 (.cells (av 8 (w64 x)) 95) fun g1 u1 M => ?_
  refine pN M 3 (.cells (av 128 (w8 rs)) 123) fun g2 u2 M => ?_
  refine pN M 4 (.cells (av 8 (w64 fun _ => 0)) 95) fun g3 u3 M => ?_
  refine nT ?_
  refine sR ?_
  refine pA M 10 1 128 (w8 rs) ?_
  refine pC M 11 145 #[.agg (av 128 (w8 rs))] (.agg (av 80 (w64 (sp2 rs 64)))) (fun w M => c_spread rs w M.laid) fun u4 M => ?_
  refine pN M 5 (.cells (av 80 (w64 fun _ => 0)) 155) fun g4 u5 M => ?_
  refine pl_put M (want_no rfl) rfl 155 _ _ rfl 3 g4 0 (by kernel_rfl) 80 155 (w64 fun _ => 0) rfl 80 (w64 (sp2 rs 64)) (w64 (sp2 rs 64)) (by kernel_rfl) inz155 (by decide) (fun _ _ => rfl) (fun j hj => by rw [if_pos (by omega), Nat.sub_zero]) fun u6 M => ?_
  refine nT ?_
  refine sR ?_
  refine pA M 12 0 8 (w64 x) ?_
  refine pN M 6 (.cells (av 8 (w64 fun _ => 0)) 95) fun g5 u7 M => ?_
  refine pl_put M (want_no rfl) rfl 95 _ _ rfl 4 g5 0 (by kernel_rfl) 8 95 (w64 fun _ => 0) rfl 8 (w64 x) (w64 x) (by kernel_rfl) inz95 (by decide) (fun _ _ => rfl) (fun j hj => by rw [if_pos (by omega), Nat.sub_zero]) fun u8 M => ?_
  refine nT ?_
  refine wp_seq ?_
  refine sR ?_
  refine pA M 13 3 80 (w64 (sp2 rs 64)) ?_
  refine pV 14 (.int .i64 0) ?_
  refine nT ?_
  refine wp_block ?_
  refine au_loop (fun j a w' => ∃ v1 : Nat → Value, a = ⟨#[.agg (av 8 (w64 x)), .agg (av 128 (w8 rs)), .pointer (some ⟨g1, 0, none⟩), .pointer (some ⟨g2, 0, none⟩), .pointer (some ⟨g3, 0, none⟩), .pointer (some ⟨g4, 0, none⟩), .pointer (some ⟨g5, 0, none⟩), v1 7, v1 8, undef, .agg (av 128 (w8 rs)), .agg (av 80 (w64 (sp2 rs 64))), .agg (av 8 (w64 x)), .agg (av 80 (w64 (sp2 rs 64))), .int .i64 (j : Int), v1 15, v1 16, v1 17, v1 18, v1 19, v1 20, v1 21, v1 22, v1 23, v1 24, v1 25, undef, undef, undef, undef, undef, undef, undef, undef, undef, undef, undef, undef, undef], []⟩ ∧ Mem ⟨w, []⟩ [⟨g1, .cells (av 8 (w64 x)) 95⟩, ⟨g2, .cells (av 128 (w8 rs)) 123⟩, ⟨g3, .cells (av 8 (w64 fun _ => 0)) 95⟩, ⟨g4, .cells (av 80 (w64 (sp2 rs 64))) 155⟩, ⟨g5, .cells (av 8 (w64 (rd x rs j))) 95⟩] w') 80 ⟨fun k => ([undef, undef, undef, undef, undef, undef, undef, undef, undef, undef, undef, undef, undef, undef, undef, undef, undef, undef, undef] : List Value).getD (k - 7) undef, by kernel_rfl, M⟩ ?_ ?_
  · intro j a u0 hj hI
    obtain ⟨v1, rfl, M⟩ := hI
    refine sR ?_
    refine pH 15 (.bool true) (dT ((j : Int) < 80) (by omega)) ?_
    refine nT ?_
    refine wp_seq ?_
    refine wp_cond_true (by kernel_rfl) ?_
    refine wp_skip ?_
    refine au_then ?_
    refine wp_seq ?_
    refine wp_block ?_
    refine sR ?_
    refine pV 16 (.int .i64 (j : Int)) ?_
    refine pH 17 (.int .u64 ((sp2 rs 64) (j))) (run_ixA 155 80 34 Tryz.underlying155 inz34 (fun _ => by kernel_rfl) _ _ rfl (w64 (sp2 rs 64)) (by kernel_rfl) .i64 (j) (by kernel_rfl) (by omega) rfl) ?_
    refine pV 7 (.int .i64 (j : Int)) ?_
    refine pV 8 (.int .u64 ((sp2 rs 64) (j))) ?_
    refine nT ?_
    refine rg_tail M 7 (by kernel_rfl) (by kernel_rfl) ?_
    simp only [List.take_succ_cons, List.take_zero]
    refine kA M 18 4 8 (w64 (rd x rs j)) ?_
    refine kV 19 (.int .i64 (j : Int)) ?_
    refine kH 20 (.pointer (some ⟨0, j, none⟩)) (run_ix1 155 80 34 Tryz.underlying155 inz34 _ _ rfl 0 (by kernel_rfl) .i64 (j) (by kernel_rfl) (by omega)) ?_
    refine kE M 21 0 j (.int .u64 (KF j)) (fun w M => M.laid j (by omega)) ?_
    refine kV 22 (.int .u64 ((sp2 rs 64) (j))) ?_
    refine kV 23 (.int .u64 (ua (KF j) ((sp2 rs 64) (j)))) ?_
    refine kC M 24 146 #[.agg (av 8 (w64 (rd x rs j))), .int .u64 (ua (KF j) ((sp2 rs 64) (j)))] (.agg (av 8 (w64 (st8 (rd x rs j) (ua (KF j) ((sp2 rs 64) (j))))))) (fun w M => c_stepped _ _ w M.laid) ?_
    refine kl_nil fun u9 M => ?_
    refine pl_put M (want_no rfl) rfl 95 _ _ rfl 4 g5 0 (by kernel_rfl) 8 95 (w64 (rd x rs j)) rfl 8 (w64 (st8 (rd x rs j) (ua (KF j) ((sp2 rs 64) (j))))) (w64 (st8 (rd x rs j) (ua (KF j) ((sp2 rs 64) (j))))) (by kernel_rfl) inz95 (by decide) (fun _ _ => rfl) (fun j hj => by rw [if_pos (by omega), Nat.sub_zero]) fun u10 M => ?_
    refine pl_nil ?_
    refine au_block ?_
    refine au_then ?_
    refine rg_lit ?_
    refine pH 25 (.int .i64 ((j + 1 : Nat) : Int)) (iV ((j : Int) + 1) (by omega) (by omega) (by omega)) ?_
    refine pV 14 (.int .i64 ((j + 1 : Nat) : Int)) ?_
    refine nT ?_
    exact ⟨fun k => ([.int .i64 (j : Int), .int .u64 ((sp2 rs 64) (j)), undef, undef, undef, undef, undef, undef, .bool true, .int .i64 (j : Int), .int .u64 ((sp2 rs 64) (j)), .agg (av 8 (w64 (rd x rs j))), .int .i64 (j : Int), .pointer (some ⟨0, j, none⟩), .int .u64 (KF j), .int .u64 ((sp2 rs 64) (j)), .int .u64 (ua (KF j) ((sp2 rs 64) (j))), .agg (av 8 (w64 (st8 (rd x rs j) (ua (KF j) ((sp2 rs 64) (j)))))), .int .i64 ((j + 1 : Nat) : Int)] : List Value).getD (k - 7) undef, by kernel_rfl, M⟩
  · intro a u0 hI
    obtain ⟨v1, rfl, M⟩ := hI
    refine sR ?_
    refine pH 15 (.bool false) (dF (80 < 80) (by omega)) ?_
    refine nT ?_
    refine wp_seq ?_
    refine wp_cond_false (by kernel_rfl) ?_
    refine wp_exit ?_
    refine au_then_exit ?_
    refine au_then_exit ?_
    refine au_block_exit ?_
    refine au_then ?_
    refine wp_seq ?_
    refine sR ?_
    refine pV 26 (.int .i64 0) ?_
    refine nT ?_
    refine wp_block ?_
    refine au_loop (fun j a w' => ∃ v2 : Nat → Value, a = ⟨#[.agg (av 8 (w64 x)), .agg (av 128 (w8 rs)), .pointer (some ⟨g1, 0, none⟩), .pointer (some ⟨g2, 0, none⟩), .pointer (some ⟨g3, 0, none⟩), .pointer (some ⟨g4, 0, none⟩), .pointer (some ⟨g5, 0, none⟩), v1 7, v1 8, v2 9, .agg (av 128 (w8 rs)), .agg (av 80 (w64 (sp2 rs 64))), .agg (av 8 (w64 x)), .agg (av 80 (w64 (sp2 rs 64))), .int .i64 (80 : Int), .bool false, v1 16, v1 17, v1 18, v1 19, v1 20, v1 21, v1 22, v1 23, v1 24, v1 25, .int .i64 (j : Int), v2 27, v2 28, v2 29, v2 30, v2 31, v2 32, v2 33, v2 34, v2 35, v2 36, v2 37, undef], []⟩ ∧ Mem ⟨w, []⟩ [⟨g1, .cells (av 8 (w64 (ad x (rd x rs 80) j))) 95⟩, ⟨g2, .cells (av 128 (w8 rs)) 123⟩, ⟨g3, .cells (av 8 (w64 fun _ => 0)) 95⟩, ⟨g4, .cells (av 80 (w64 (sp2 rs 64))) 155⟩, ⟨g5, .cells (av 8 (w64 (rd x rs 80))) 95⟩] w') 8 ⟨fun k => ([undef, undef, undef, undef, undef, undef, undef, undef, undef, undef, undef, undef, undef, undef, undef, undef, undef, undef, undef, undef, undef, undef, undef, undef, undef, undef, undef, undef, undef] : List Value).getD (k - 9) undef, by kernel_rfl, M⟩ ?_ ?_
    · intro j a u0 hj hI
      obtain ⟨v2, rfl, M⟩ := hI
      refine sR ?_
      refine pH 27 (.bool true) (dT ((j : Int) < 8) (by omega)) ?_
      refine nT ?_
      refine wp_seq ?_
      refine wp_cond_true (by kernel_rfl) ?_
      refine wp_skip ?_
      refine au_then ?_
      refine wp_seq ?_
      refine wp_block ?_
      refine sR ?_
      refine pV 28 (.int .i64 (j : Int)) ?_
      refine pV 9 (.int .i64 (j : Int)) ?_
      refine nT ?_
      refine rg_tail M 8 (by kernel_rfl) (by kernel_rfl) ?_
      simp only [List.take_succ_cons, List.take_zero]
      refine kV 29 (.int .i64 (j : Int)) ?_
      refine kH 30 (.pointer (some ⟨g1, j, none⟩)) (run_ix1 95 8 34 Tryz.underlying95 inz34 _ _ rfl g1 (by kernel_rfl) .i64 (j) (by kernel_rfl) (by omega)) ?_
      refine kE M 31 g1 j (.int .u64 ((ad x (rd x rs 80) j) j)) (fun w M => M.cell 0 rfl (by omega) rfl) ?_
      refine kV 32 (.int .i64 (j : Int)) ?_
      refine kH 33 (.pointer (some ⟨g5, j, none⟩)) (run_ix1 95 8 34 Tryz.underlying95 inz34 _ _ rfl g5 (by kernel_rfl) .i64 (j) (by kernel_rfl) (by omega)) ?_
      refine kE M 34 g5 j (.int .u64 ((rd x rs 80) j)) (fun w M => M.cell 4 rfl (by omega) rfl) ?_
      refine kV 35 (.int .u64 (ua ((ad x (rd x rs 80) j) j) ((rd x rs 80) j))) ?_
      refine kH 36 (.pointer (some ⟨g1, j, none⟩)) (run_ix1 95 8 34 Tryz.underlying95 inz34 _ _ rfl g1 (by kernel_rfl) .i64 (j) (by kernel_rfl) (by omega)) ?_
      refine kl_nil fun u11 M => ?_
      refine pP M 0 rfl j (.int .u64 (ua ((ad x (rd x rs 80) j) j) ((rd x rs 80) j))) (w64 (upd (ad x (rd x rs 80) j) j (ua ((ad x (rd x rs 80) j) j) ((rd x rs 80) j)))) (by omega) (fun j _ => put_w64 _ _ _ j) fun u12 M => ?_
      refine pl_nil ?_
      refine au_block ?_
      refine au_then ?_
      refine rg_lit ?_
      refine pH 37 (.int .i64 ((j + 1 : Nat) : Int)) (iV ((j : Int) + 1) (by omega) (by omega) (by omega)) ?_
      refine pV 26 (.int .i64 ((j + 1 : Nat) : Int)) ?_
      refine nT ?_
      exact ⟨fun k => ([.int .i64 (j : Int), undef, undef, undef, undef, undef, undef, undef, undef, undef, undef, undef, undef, undef, undef, undef, undef, undef, .bool true, .int .i64 (j : Int), .int .i64 (j : Int), .pointer (some ⟨g1, j, none⟩), .int .u64 ((ad x (rd x rs 80) j) j), .int .i64 (j : Int), .pointer (some ⟨g5, j, none⟩), .int .u64 ((rd x rs 80) j), .int .u64 (ua ((ad x (rd x rs 80) j) j) ((rd x rs 80) j)), .pointer (some ⟨g1, j, none⟩), .int .i64 ((j + 1 : Nat) : Int)] : List Value).getD (k - 9) undef, by kernel_rfl, M⟩
    · intro a u0 hI
      obtain ⟨v2, rfl, M⟩ := hI
      refine sR ?_
      refine pH 27 (.bool false) (dF (8 < 8) (by omega)) ?_
      refine nT ?_
      refine wp_seq ?_
      refine wp_cond_false (by kernel_rfl) ?_
      refine wp_exit ?_
      refine au_then_exit ?_
      refine au_then_exit ?_
      refine au_block_exit ?_
      refine au_then ?_
      refine sR ?_
      refine pA M 38 0 8 (w64 (ad x (rd x rs 80) 8)) ?_
      refine pl_put M (want_no rfl) rfl 95 _ _ rfl 2 g3 0 (by kernel_rfl) 8 95 (w64 fun _ => 0) rfl 8 (w64 (ad x (rd x rs 80) 8)) (w64 (ad x (rd x rs 80) 8)) (by kernel_rfl) inz95 (by decide) (fun _ _ => rfl) (fun j hj => by rw [if_pos (by omega), Nat.sub_zero]) fun u13 M => ?_
      refine nT ?_
      refine wp_ret ?_
      refine bodyPost_ret (v := .agg (av 8 (w64 (mixV x rs)))) (Eq.trans (b := .ok (.agg (av 8 (w64 (ad x (rd x rs 80) 8)))) _) (results_cell_row Tryz.results138 _ _ g3 95 (av 8 (w64 (ad x (rd x rs 80) 8))) (0, 0) _ (by kernel_rfl) (M.get 2 rfl) Tryz.underlying95 rfl (by rw [av_size]; exact inz95)) (by rw [ad_av]; rfl)) (by kernel_rfl) ⟨rfl, below_grown M.old⟩


end Go.Proofs.YtmhfmhmpoobmlaaGreatDoor.Sha

/- The hash in memory: firstWords and New; what bytes do to it. -/
namespace Go.Proofs.YtmhfmhmpoobmlaaGreatDoor.Sha
open Go.RowKit

/-- The cells of a hash. -/
def hF (mk : Bool) (ws rs : Nat → Int) (ct : Int) : Nat → Value := fun i => if i = 0 then .bool mk else if i < 9 then .int .u64 (ws (i - 1)) else if i < 137 then .int .u8 (rs (i - 9)) else .int .u64 ct
theorem hF_words (mk : Bool) (ws rs : Nat → Int) (ct : Int) : ∀ j, j < 8 → hF mk ws rs ct (1 + j) = w64 ws j := fun j hj => by
  unfold hF w64
  rw [if_neg (by omega), if_pos (by omega), show 1 + j - 1 = j by omega]
theorem hF_rest (mk : Bool) (ws rs : Nat → Int) (ct : Int) : ∀ j, j < 128 → hF mk ws rs ct (9 + j) = w8 rs j := fun j hj => by
  unfold hF w8
  rw [if_neg (by omega), if_neg (by omega), if_pos (by omega), show 9 + j - 9 = j by omega]
theorem hF_putw (mk : Bool) (ws rs : Nat → Int) (ct : Int) (f : Nat → Int) : ∀ j, j < 138 → (if 1 ≤ j ∧ j < 1 + 8 then w64 f (j - 1) else hF mk ws rs ct j) = hF mk f rs ct j := fun j hj => by
  unfold hF w64
  by_cases h : 1 ≤ j ∧ j < 1 + 8
  · rw [if_pos h, if_neg (by omega), if_pos (by omega)]
  · rw [if_neg h]
    by_cases h0 : j = 0
    · rw [if_pos h0, if_pos h0]
    · have h9 : ¬ j < 9 := by omega
      rw [if_neg h0, if_neg h0, if_neg h9, if_neg h9]
theorem hF_putc (mk : Bool) (ws rs : Nat → Int) (ct : Int) (c' : Int) : ∀ j, j < 138 → (if j = 137 then .int .u64 c' else hF mk ws rs ct j) = hF mk ws rs c' j := fun j hj => by
  unfold hF
  by_cases h : j = 137
  · rw [if_pos h, if_neg (by omega), if_neg (by omega), if_neg (by omega)]
  · rw [if_neg h]
    by_cases h0 : j < 137
    · rw [if_pos h0, if_pos h0]
    · omega
theorem hF_one (mk : Bool) (ws rs : Nat → Int) (ct : Int) : ∀ j, j < 138 → (hF mk ws rs ct j).oneCell' = true := fun j _ => by
  unfold hF
  split
  · rfl
  · split
    · rfl
    · split <;> rfl
/-- bytes that come into rest -/
def cpy (rs : Nat → Int) (p k : Nat) (s : ByteArray) : Nat → Int := fun i => if p ≤ i ∧ i < p + k then bt s (i - p) else rs i
theorem hF_cpy (mk : Bool) (ws rs : Nat → Int) (ct : Int) (p k : Nat) (s : ByteArray) (hp : p + k ≤ 128) : ∀ j, j < 138 → (if 9 + p ≤ j ∧ j < 9 + p + k then w8 (bt s) (j - (9 + p)) else hF mk ws rs ct j) = hF mk ws (cpy rs p k s) ct j := fun j hj => by
  unfold hF w8 cpy
  by_cases h : 9 + p ≤ j ∧ j < 9 + p + k
  · rw [if_pos h, if_neg (by omega), if_neg (by omega), if_pos (by omega), if_pos (by omega), show j - (9 + p) = j - 9 - p by omega]
  · rw [if_neg h]
    by_cases h0 : j = 0
    · rw [if_pos h0, if_pos h0]
    · rw [if_neg h0, if_neg h0]
      by_cases h9 : j < 9
      · rw [if_pos h9, if_pos h9]
      · rw [if_neg h9, if_neg h9]
        by_cases h1 : j < 137
        · rw [if_pos h1, if_pos h1, if_neg (by omega)]
        · rw [if_neg h1, if_neg h1]

/-- The words to begin with. -/
def HB : Nat → Int := r8 7640891576956012808 13503953896175478587 4354685564936845355 11912009170470909681 5840696475078001361 11170449401992604703 2270897969802886507 6620516959819538809
/-- A hash. -/
structure HS where
  ws : Nat → Int
  rs : Nat → Int
  ct : Int
def HS.ok (H : HS) : Prop := 0 ≤ H.ct ∧ H.ct < 18446744073709551616
def hs0 : HS := ⟨HB, fun _ => 0, 0⟩
/-- One byte more. -/
def ab (H : HS) (b : Int) : HS := ⟨if H.ct % 128 = 127 then mixV H.ws (upd H.rs 127 b) else H.ws, upd H.rs (H.ct % 128).toNat b, ua H.ct 1⟩
def tk (H : HS) (s : ByteArray) : Nat → HS
  | 0 => H
  | k + 1 => ab (tk H s k) (bt s k)
theorem ua_eq (x y : Int) : ua x y = (x + y) % 18446744073709551616 := by
  unfold ua
  simp [IntKind.wrap, IntKind.signed, IntKind.bits]
theorem ab_ok (H : HS) (b : Int) : (ab H b).ok := by
  unfold HS.ok ab
  simp only [ua_eq]
  omega
theorem tk_ok {H : HS} (h : H.ok) (s : ByteArray) : ∀ k, (tk H s k).ok
  | 0 => h
  | _ + 1 => ab_ok _ _
theorem cpy_zero (rs : Nat → Int) (p : Nat) (s : ByteArray) : cpy rs p 0 s = rs := by
  funext i
  unfold cpy
  rw [if_neg (by omega)]
/-- n bytes that end no block, or just end it. -/
theorem tk_run (H : HS) (h : H.ok) (s : ByteArray) (k p : Nat) (rem : ByteArray) (hrem : ∀ i, bt rem i = bt s (k + i)) (hp : (tk H s k).ct % 128 = (p : Int)) : ∀ n, p + n ≤ 128 →
    (tk H s (k + n)).rs = cpy (tk H s k).rs p n rem ∧ (tk H s (k + n)).ct = ua (tk H s k).ct (n : Int) ∧ (tk H s (k + n)).ws = if n ≠ 0 ∧ p + n = 128 then mixV (tk H s k).ws (cpy (tk H s k).rs p n rem) else (tk H s k).ws := by
  intro n
  have hok := tk_ok h s k
  induction n with
  | zero =>
    intro _
    refine ⟨by rw [cpy_zero]; rfl, ?_, by rw [if_neg (by simp)]; rfl⟩
    rw [ua_eq]
    simp only [Nat.add_zero, Int.natCast_zero, Int.add_zero]
    unfold HS.ok at hok
    omega
  | succ n ih =>
    intro hn
    obtain ⟨h1, h2, h3⟩ := ih (by omega)
    have hct : (tk H s (k + n)).ct % 128 = ((p + n : Nat) : Int) := by
      rw [h2, ua_eq]
      omega
    have hrs : (tk H s (k + (n + 1))).rs = cpy (tk H s k).rs p (n + 1) rem := by
      show upd (tk H s (k + n)).rs ((tk H s (k + n)).ct % 128).toNat (bt s (k + n)) = _
      rw [hct, h1, Int.toNat_natCast]
      funext i
      unfold upd cpy
      by_cases hi : i = p + n
      · rw [if_pos hi, if_pos (by omega), hrem, hi, show k + (p + n - p) = k + n by omega]
      · rw [if_neg hi]
        by_cases hj : p ≤ i ∧ i < p + n
        · rw [if_pos hj, if_pos (by omega)]
        · rw [if_neg hj, if_neg (by omega)]
    refine ⟨hrs, ?_, ?_⟩
    · show ua (tk H s (k + n)).ct 1 = _
      rw [h2, ua_eq, ua_eq, ua_eq]
      omega
    · have hwn : (tk H s (k + n)).ws = (tk H s k).ws := by rw [h3, if_neg (by omega)]
      have hu : (tk H s (k + (n + 1))).ws = if (tk H s (k + n)).ct % 128 = 127 then mixV (tk H s (k + n)).ws (upd (tk H s (k + n)).rs 127 (bt s (k + n))) else (tk H s (k + n)).ws := rfl
      rw [hu, hwn, hct]
      by_cases he : p + (n + 1) = 128
      · rw [if_pos (by omega), if_pos ⟨by omega, he⟩, ← hrs]
        show mixV _ _ = mixV _ (upd (tk H s (k + n)).rs ((tk H s (k + n)).ct % 128).toNat (bt s (k + n)))
        rw [hct, Int.toNat_natCast, show p + n = 127 by omega]
      · rw [if_neg (by omega), if_neg (by omega)]

set_option maxRecDepth 100000 in
set_option maxHeartbeats 4000000 in
theorem c_first  (w : World) (hL : Laid w)  :
    Calls Tryz.prog 100 #[] w fun r w' => r = .returned (.agg (av 8 (w64 HB))) ∧ Below w.heap.size w w' := by
  go_enter Tryz.func100, Tryz.ntmps100
  have M := Mem.start hL
  refine sR ?_
  refine pN M 0 (.cells (av 8 (w64 fun _ => 0)) 95) fun g1 u1 M => ?_
  refine nT ?_
  refine sR ?_
  refine pV 1 (.agg (av 8 (w64 HB))) ?_
  refine pl_put M (want_no rfl) rfl 95 _ _ rfl 0 g1 0 (by kernel_rfl) 8 95 (w64 fun _ => 0) rfl 8 (w64 HB) (w64 HB) (by kernel_rfl) inz95 (by decide) (fun _ _ => rfl) (fun j hj => by rw [if_pos (by omega), Nat.sub_zero]) fun u2 M => ?_
  refine nT ?_
  refine wp_ret ?_
  exact bodyPost_ret (v := .agg (av 8 (w64 HB))) (results_cell_row Tryz.results100 _ _ g1 95 (av 8 (w64 HB)) (0, 0) _ (by kernel_rfl) (M.get 0 rfl) Tryz.underlying95 rfl (by rw [av_size]; exact inz95)) (by kernel_rfl) ⟨rfl, below_grown M.old⟩

set_option maxRecDepth 100000 in
set_option maxHeartbeats 4000000 in
theorem c_new  (w : World) (hL : Laid w)  :
    Calls Tryz.prog 54 #[] w fun r w' => ∃ g, r = .returned (.pointer (some ⟨g, 0, none⟩)) ∧ w.heap.size ≤ g ∧ w'.heap[g]? = some (.cells (av 138 (hF true hs0.ws hs0.rs hs0.ct)) 125) ∧ Below w.heap.size w w' := by
  go_enter Tryz.func54, Tryz.ntmps54
  have M := Mem.start hL
  refine sR ?_
  refine pV 0 (.pointer none) ?_
  refine nT ?_
  refine sR ?_
  refine pC M 1 100 #[] (.agg (av 8 (w64 HB))) (fun w M => c_first w M.laid) fun u1 M => ?_
  refine pV 2 (.agg (av 138 (hF true HB (fun _ => 0) 0))) ?_
  refine pN M 3 (.cells (av 138 (hF true HB (fun _ => 0) 0)) 125) fun g1 u2 M => ?_
  refine pV 0 (.pointer (some ⟨g1, 0, none⟩)) ?_
  refine nT ?_
  refine wp_ret ?_
  exact bodyPost_ret (v := .pointer (some ⟨g1, 0, none⟩)) (results_tmp1 Tryz.results54 _ _ _ (by kernel_rfl)) (by kernel_rfl) ⟨g1, rfl, (M.ge _ (List.mem_singleton.2 rfl)).elim id (fun h => by cases h), M.get 0 rfl, below_grown M.old⟩


end Go.Proofs.YtmhfmhmpoobmlaaGreatDoor.Sha

/- Bytes are taken: the walk of take. -/
namespace Go.Proofs.YtmhfmhmpoobmlaaGreatDoor.Sha
open Go.RowKit

theorem rem128 (x : Int) (h0 : 0 ≤ x) (p : Nat) (hp : x % 128 = (p : Int)) : IntKind.wrap .i64 (Int.tmod x 128) = (p : Int) := by
  rw [Int.tmod_eq_emod_of_nonneg h0, hp, wrap64 (by omega) (by omega)]
theorem cv_u64 (n : Nat) (h : n < 18446744073709551616) : cv .u64 (n : Int) = (n : Int) := by
  unfold cv
  simp [IntKind.wrap, IntKind.signed, IntKind.bits]
  omega
theorem bt_extract (s : ByteArray) (k : Nat) (i : Nat) : bt (s.extract k s.size) i = bt s (k + i) := by
  unfold bt
  congr 2
  have e : (s.extract k s.size).data[i]? = s.data[k + i]? := by
    have hs : s.data.size = s.size := rfl
    rw [ByteArray.data_extract, Array.getElem?_extract]
    by_cases h : k + i < s.size
    · rw [if_pos (by omega)]
    · rw [if_neg (by omega), Array.getElem?_eq_none (by omega)]
  rw [e]
theorem size_extract (s : ByteArray) (k : Nat) : (s.extract k s.size).size = s.size - k := by simp [ByteArray.size_extract]
theorem extract_extract (s : ByteArray) (k q : Nat) (hk : k + q ≤ s.size) : (s.extract k s.size).extract q (s.extract k s.size).size = s.extract (k + q) s.size := by
  have hs : s.size = s.data.size := rfl
  apply ByteArray.ext
  rw [ByteArray.data_extract, ByteArray.data_extract, ByteArray.data_extract, size_extract]
  apply Array.ext_getElem?
  intro i
  rw [Array.getElem?_extract, Array.getElem?_extract, Array.getElem?_extract]
  by_cases h : k + q + i < s.size
  · rw [if_pos (by simp; omega), if_pos (by omega), if_pos (by omega), Nat.add_assoc]
  · rw [if_neg (by simp; omega), if_neg (by omega)]
theorem extract_all (s : ByteArray) : s.extract 0 s.size = s := by simp
theorem run_strl {P : Program} {a : Act} {o : Oper} (t : TypeId) (hu : P.underlying t = some .string) (x lo : Operand) (ho : o.op = .slice t x (some lo) none none) (s : ByteArray) (hx : a.eval x = .string s) (k : IntKind) (i : Nat) (hi : a.eval lo = .int k (i : Int)) (hle : i ≤ s.size) (v : ByteArray) (hv : s.extract i s.size = v) (w : World) :
    (execOp a.eval o).run P w = .ok (.value (.string v)) w := by
  subst hv
  unfold execOp
  simp [ho, hx, hi, run_sliceAt_string w t (.string s) (some (.int k i)) none none hu, run_slice_string_l w t s hu k i (by omega) (by omega)]

set_option maxRecDepth 100000 in
set_option maxHeartbeats 4000000 in
theorem c_take (H : HS) (hH : H.ok) (g : Nat) (s : ByteArray) (w : World) (hL : Laid w) (hg : w.heap[g]? = some (.cells (av 138 (hF true H.ws H.rs H.ct)) 125)) (h0 : g ≠ 0) :
    Calls Tryz.prog 96 #[.pointer (some ⟨g, 0, none⟩), .string s] w fun r w' => r = .returned (.tuple #[]) ∧ Grw w w' [g] ∧ w'.heap[g]? = some (.cells (av 138 (hF true (tk H s s.size).ws (tk H s s.size).rs (tk H s s.size).ct)) 125) := by
  go_enter Tryz.func96, Tryz.ntmps96
  have M := Mem.startp hL hg h0
  refine wp_block ?_
  refine wp_loop_ghost (fun n a w' => ∃ (v : Nat → Value) (k : Nat) (rem : ByteArray), k + n = s.size ∧ rem = s.extract k s.size ∧ a = ⟨#[.pointer (some ⟨g, 0, none⟩), .string rem, undef, undef, v 4, v 5, v 6, v 7, v 8, v 9, v 10, v 11, v 12, v 13, v 14, v 15, v 16, v 17, v 18, v 19, v 20, v 21, v 22, v 23, v 24, v 25, v 26, v 27, v 28, v 29, v 30, v 31, v 32, v 33, v 34, v 35, v 36, v 37, v 38, v 39, v 40, v 41, v 42, v 43, v 44, v 45, v 46, v 47, v 48, v 49], []⟩ ∧ Mem ⟨w, [g]⟩ [⟨g, .cells (av 138 (hF true (tk H s k).ws (tk H s k).rs (tk H s k).ct)) 125⟩] w') s.size ⟨fun _ => undef, 0, s, by omega, (extract_all s).symm, by kernel_rfl, M⟩ ?_
  intro n a u0 hI
  obtain ⟨v, k, rem, hk, hrem, rfl, M⟩ := hI
  have hsz : rem.size = n := by rw [hrem, size_extract]; omega
  obtain ⟨G, hG⟩ : ∃ G, G = tk H s k := ⟨_, rfl⟩
  have hok : G.ok := by rw [hG]; exact tk_ok hH s k
  rw [← hG] at M
  rcases Nat.eq_zero_or_pos n with hn | hn
  · skip
    refine wp_seq ?_
    refine sR ?_
    refine pV 6 (.string rem) ?_
    refine pV 7 (.int .i64 (rem.size : Int)) ?_
    refine pH 8 (.bool false) (dF ((0 : Int) < (rem.size : Int)) (by omega)) ?_
    refine nT ?_
    refine wp_cond_false (by kernel_rfl) ?_
    refine wp_exit ?_
    refine au_then_exit ?_
    refine au_then_exit ?_
    refine au_block_exit ?_
    have ek : k = s.size := by omega
    rw [hG, ek] at M
    exact bodyPost_end (v := .tuple #[]) (results_none Tryz.results96 _ _) (by kernel_rfl) ⟨rfl, M.old, M.get 0 rfl⟩
  have hp : ∃ p : Nat, G.ct % 128 = (p : Int) ∧ p < 128 := ⟨(G.ct % 128).toNat, by unfold HS.ok at hok; omega, by omega⟩
  obtain ⟨p, hp, hp1⟩ := hp
  obtain ⟨q, hq⟩ : ∃ q, q = Nat.min rem.size (128 - p) := ⟨_, rfl⟩
  have hq1 : q ≤ n := by rw [hq, hsz]; exact Nat.min_le_left _ _
  have hq2 : q ≤ 128 - p := by rw [hq]; exact Nat.min_le_right _ _
  have hq3 : 0 < q := by rw [hq, hsz]; exact Nat.lt_min.2 ⟨hn, by omega⟩
  have hrun := tk_run H hH s k p rem (fun i => by rw [hrem, bt_extract]) (by rw [← hG]; exact hp) q (by omega)
  rw [← hG] at hrun
  obtain ⟨e1, e2, e3⟩ := hrun
  have hct : ua G.ct (cv .u64 (q : Int)) = (tk H s (k + q)).ct := by rw [e2, cv_u64 q (by omega)]
  by_cases hf : p + q = 128
  · skip
    refine wp_seq ?_
    refine sR ?_
    refine pV 6 (.string rem) ?_
    refine pV 7 (.int .i64 (rem.size : Int)) ?_
    refine pH 8 (.bool true) (dT ((0 : Int) < (rem.size : Int)) (by omega)) ?_
    refine nT ?_
    refine wp_cond_true (by kernel_rfl) ?_
    refine wp_skip ?_
    refine au_then ?_
    refine wp_block ?_
    refine sR ?_
    refine pV 9 (.pointer (some ⟨g, 0, none⟩)) ?_
    refine pV 10 (.pointer (some ⟨g, 0, none⟩)) ?_
    refine pV 11 (.pointer (some ⟨g, 137, none⟩)) ?_
    refine pE M 12 g 137 (.int .u64 G.ct) (fun w M => M.cell 0 rfl (by decide) rfl) ?_
    refine pV 13 (.int .u64 (Int.tmod G.ct 128)) ?_
    refine pH 14 (.int .i64 (p : Int)) (fun w => Eq.trans (b := .ok (.value (.int .i64 (IntKind.wrap .i64 (Int.tmod G.ct 128)))) w) (by kernel_rfl) (by rw [rem128 G.ct hok.1 p hp])) ?_
    refine pV 4 (.int .i64 (p : Int)) ?_
    refine nT ?_
    refine sR ?_
    refine pV 15 (.pointer (some ⟨g, 0, none⟩)) ?_
    refine pV 16 (.pointer (some ⟨g, 0, none⟩)) ?_
    refine pV 17 (.pointer (some ⟨g, 9, none⟩)) ?_
    refine pV 18 (.int .i64 (p : Int)) ?_
    refine pH 19 (.slice (some ⟨g, (9 + p), none⟩) (128 - p) (128 - p)) (run_slA 123 128 5 Tryz.underlying123 inz5 _ _ rfl g 9 (by kernel_rfl) .i64 p (by kernel_rfl) hp1) ?_
    refine pV 20 (.string rem) ?_
    refine pl_copyS M (want_no rfl) (some 21) rfl 32 9 3 5 Tryz.underlying32 inz5 0 g 138 125 (hF true G.ws G.rs G.ct) rfl (9 + p) (128 - p) (128 - p) rem q hq (by omega) (hF true G.ws (cpy G.rs p q rem) G.ct) (hF_cpy true G.ws G.rs G.ct p q rem (by omega)) (fun _ => by kernel_rfl) fun u1 M => ?_
    refine pV 5 (.int .i64 (q : Int)) ?_
    refine nT ?_
    refine sR ?_
    refine pV 22 (.pointer (some ⟨g, 0, none⟩)) ?_
    refine pV 23 (.pointer (some ⟨g, 0, none⟩)) ?_
    refine pV 24 (.pointer (some ⟨g, 137, none⟩)) ?_
    refine pE M 25 g 137 (.int .u64 G.ct) (fun w M => M.cell 0 rfl (by decide) rfl) ?_
    refine pV 26 (.int .i64 (q : Int)) ?_
    refine pV 27 (.int .u64 (cv .u64 (q : Int))) ?_
    refine pV 28 (.int .u64 (ua G.ct (cv .u64 (q : Int)))) ?_
    refine pV 29 (.pointer (some ⟨g, 0, none⟩)) ?_
    refine pV 30 (.pointer (some ⟨g, 137, none⟩)) ?_
    refine pP M 0 rfl 137 (.int .u64 (ua G.ct (cv .u64 (q : Int)))) (hF true G.ws (cpy G.rs p q rem) (ua G.ct (cv .u64 (q : Int)))) (by decide) (hF_putc true G.ws (cpy G.rs p q rem) G.ct (ua G.ct (cv .u64 (q : Int)))) fun u2 M => ?_
    refine nT ?_
    refine sR ?_
    refine pV 31 (.string rem) ?_
    refine pV 32 (.int .i64 (q : Int)) ?_
    refine pH 33 (.string (s.extract (k + q) s.size)) (run_strl 9 Tryz.underlying9 _ _ rfl rem (by kernel_rfl) .i64 q (by kernel_rfl) (by omega) _ (by rw [hrem]; exact extract_extract s k q (by omega))) ?_
    refine pV 1 (.string (s.extract (k + q) s.size)) ?_
    refine nT ?_
    refine sR ?_
    refine pV 34 (.int .i64 (p : Int)) ?_
    refine pV 35 (.int .i64 (q : Int)) ?_
    refine pH 36 (.int .i64 ((p + q : Nat) : Int)) (iV ((p : Int) + (q : Int)) (by omega) (by omega) (by omega)) ?_
    refine pH 37 (.bool true) (dT (((p + q : Nat) : Int) = 128) (by omega)) ?_
    refine nT ?_
    refine wp_cond_true (by kernel_rfl) ?_
    refine rg_tail M 12 (by kernel_rfl) (by kernel_rfl) ?_
    simp only [List.take_succ_cons, List.take_zero]
    refine kV 38 (.pointer (some ⟨g, 0, none⟩)) ?_
    refine kV 39 (.pointer (some ⟨g, 0, none⟩)) ?_
    refine kV 40 (.pointer (some ⟨g, 0, none⟩)) ?_
    refine kV 41 (.pointer (some ⟨g, 1, none⟩)) ?_
    refine kL M 42 0 rfl 1 8 (w64 G.ws) (hF_words true G.ws (cpy G.rs p q rem) (ua G.ct (cv .u64 (q : Int)))) ?_
    refine kV 43 (.pointer (some ⟨g, 0, none⟩)) ?_
    refine kV 44 (.pointer (some ⟨g, 0, none⟩)) ?_
    refine kV 45 (.pointer (some ⟨g, 9, none⟩)) ?_
    refine kL M 46 0 rfl 9 128 (w8 (cpy G.rs p q rem)) (hF_rest true G.ws (cpy G.rs p q rem) (ua G.ct (cv .u64 (q : Int)))) ?_
    refine kC M 47 138 #[.agg (av 8 (w64 G.ws)), .agg (av 128 (w8 (cpy G.rs p q rem)))] (.agg (av 8 (w64 (mixV G.ws (cpy G.rs p q rem))))) (fun w M => c_mixed _ _ w M.laid) ?_
    refine kV 48 (.pointer (some ⟨g, 0, none⟩)) ?_
    refine kV 49 (.pointer (some ⟨g, 1, none⟩)) ?_
    refine kl_nil fun u3 M => ?_
    refine pl_put M (want_no rfl) rfl 95 _ _ rfl 0 g 1 (by kernel_rfl) 138 125 (hF true G.ws (cpy G.rs p q rem) (ua G.ct (cv .u64 (q : Int)))) rfl 8 (w64 (mixV G.ws (cpy G.rs p q rem))) (hF true (mixV G.ws (cpy G.rs p q rem)) (cpy G.rs p q rem) (ua G.ct (cv .u64 (q : Int)))) (by kernel_rfl) inz95 (by decide) (fun _ _ => rfl) (hF_putw true G.ws (cpy G.rs p q rem) (ua G.ct (cv .u64 (q : Int))) (mixV G.ws (cpy G.rs p q rem))) fun u4 M => ?_
    refine pl_nil ?_
    refine au_block ?_
    refine au_then ?_
    have E : hF true (mixV G.ws (cpy G.rs p q rem)) (cpy G.rs p q rem) (ua G.ct (cv .u64 (q : Int))) = hF true (tk H s (k + q)).ws (tk H s (k + q)).rs (tk H s (k + q)).ct := by rw [e1, e3, if_pos ⟨by omega, hf⟩, hct]
    rw [E] at M
    exact ⟨n - q, by omega, fun k_ => ([.int .i64 (p : Int), .int .i64 (q : Int), .string rem, .int .i64 (rem.size : Int), .bool true, .pointer (some ⟨g, 0, none⟩), .pointer (some ⟨g, 0, none⟩), .pointer (some ⟨g, 137, none⟩), .int .u64 G.ct, .int .u64 (Int.tmod G.ct 128), .int .i64 (p : Int), .pointer (some ⟨g, 0, none⟩), .pointer (some ⟨g, 0, none⟩), .pointer (some ⟨g, 9, none⟩), .int .i64 (p : Int), .slice (some ⟨g, (9 + p), none⟩) (128 - p) (128 - p), .string rem, .int .i64 (q : Int), .pointer (some ⟨g, 0, none⟩), .pointer (some ⟨g, 0, none⟩), .pointer (some ⟨g, 137, none⟩), .int .u64 G.ct, .int .i64 (q : Int), .int .u64 (cv .u64 (q : Int)), .int .u64 (ua G.ct (cv .u64 (q : Int))), .pointer (some ⟨g, 0, none⟩), .pointer (some ⟨g, 137, none⟩), .string rem, .int .i64 (q : Int), .string (s.extract (k + q) s.size), .int .i64 (p : Int), .int .i64 (q : Int), .int .i64 ((p + q : Nat) : Int), .bool true, .pointer (some ⟨g, 0, none⟩), .pointer (some ⟨g, 0, none⟩), .pointer (some ⟨g, 0, none⟩), .pointer (some ⟨g, 1, none⟩), .agg (av 8 (w64 G.ws)), .pointer (some ⟨g, 0, none⟩), .pointer (some ⟨g, 0, none⟩), .pointer (some ⟨g, 9, none⟩), .agg (av 128 (w8 (cpy G.rs p q rem))), .agg (av 8 (w64 (mixV G.ws (cpy G.rs p q rem)))), .pointer (some ⟨g, 0, none⟩), .pointer (some ⟨g, 1, none⟩)] : List Value).getD (k_ - 4) undef, k + q, s.extract (k + q) s.size, by omega, rfl, by kernel_rfl, M⟩
  · skip
    refine wp_seq ?_
    refine sR ?_
    refine pV 6 (.string rem) ?_
    refine pV 7 (.int .i64 (rem.size : Int)) ?_
    refine pH 8 (.bool true) (dT ((0 : Int) < (rem.size : Int)) (by omega)) ?_
    refine nT ?_
    refine wp_cond_true (by kernel_rfl) ?_
    refine wp_skip ?_
    refine au_then ?_
    refine wp_block ?_
    refine sR ?_
    refine pV 9 (.pointer (some ⟨g, 0, none⟩)) ?_
    refine pV 10 (.pointer (some ⟨g, 0, none⟩)) ?_
    refine pV 11 (.pointer (some ⟨g, 137, none⟩)) ?_
    refine pE M 12 g 137 (.int .u64 G.ct) (fun w M => M.cell 0 rfl (by decide) rfl) ?_
    refine pV 13 (.int .u64 (Int.tmod G.ct 128)) ?_
    refine pH 14 (.int .i64 (p : Int)) (fun w => Eq.trans (b := .ok (.value (.int .i64 (IntKind.wrap .i64 (Int.tmod G.ct 128)))) w) (by kernel_rfl) (by rw [rem128 G.ct hok.1 p hp])) ?_
    refine pV 4 (.int .i64 (p : Int)) ?_
    refine nT ?_
    refine sR ?_
    refine pV 15 (.pointer (some ⟨g, 0, none⟩)) ?_
    refine pV 16 (.pointer (some ⟨g, 0, none⟩)) ?_
    refine pV 17 (.pointer (some ⟨g, 9, none⟩)) ?_
    refine pV 18 (.int .i64 (p : Int)) ?_
    refine pH 19 (.slice (some ⟨g, (9 + p), none⟩) (128 - p) (128 - p)) (run_slA 123 128 5 Tryz.underlying123 inz5 _ _ rfl g 9 (by kernel_rfl) .i64 p (by kernel_rfl) hp1) ?_
    refine pV 20 (.string rem) ?_
    refine pl_copyS M (want_no rfl) (some 21) rfl 32 9 3 5 Tryz.underlying32 inz5 0 g 138 125 (hF true G.ws G.rs G.ct) rfl (9 + p) (128 - p) (128 - p) rem q hq (by omega) (hF true G.ws (cpy G.rs p q rem) G.ct) (hF_cpy true G.ws G.rs G.ct p q rem (by omega)) (fun _ => by kernel_rfl) fun u5 M => ?_
    refine pV 5 (.int .i64 (q : Int)) ?_
    refine nT ?_
    refine sR ?_
    refine pV 22 (.pointer (some ⟨g, 0, none⟩)) ?_
    refine pV 23 (.pointer (some ⟨g, 0, none⟩)) ?_
    refine pV 24 (.pointer (some ⟨g, 137, none⟩)) ?_
    refine pE M 25 g 137 (.int .u64 G.ct) (fun w M => M.cell 0 rfl (by decide) rfl) ?_
    refine pV 26 (.int .i64 (q : Int)) ?_
    refine pV 27 (.int .u64 (cv .u64 (q : Int))) ?_
    refine pV 28 (.int .u64 (ua G.ct (cv .u64 (q : Int)))) ?_
    refine pV 29 (.pointer (some ⟨g, 0, none⟩)) ?_
    refine pV 30 (.pointer (some ⟨g, 137, none⟩)) ?_
    refine pP M 0 rfl 137 (.int .u64 (ua G.ct (cv .u64 (q : Int)))) (hF true G.ws (cpy G.rs p q rem) (ua G.ct (cv .u64 (q : Int)))) (by decide) (hF_putc true G.ws (cpy G.rs p q rem) G.ct (ua G.ct (cv .u64 (q : Int)))) fun u6 M => ?_
    refine nT ?_
    refine sR ?_
    refine pV 31 (.string rem) ?_
    refine pV 32 (.int .i64 (q : Int)) ?_
    refine pH 33 (.string (s.extract (k + q) s.size)) (run_strl 9 Tryz.underlying9 _ _ rfl rem (by kernel_rfl) .i64 q (by kernel_rfl) (by omega) _ (by rw [hrem]; exact extract_extract s k q (by omega))) ?_
    refine pV 1 (.string (s.extract (k + q) s.size)) ?_
    refine nT ?_
    refine sR ?_
    refine pV 34 (.int .i64 (p : Int)) ?_
    refine pV 35 (.int .i64 (q : Int)) ?_
    refine pH 36 (.int .i64 ((p + q : Nat) : Int)) (iV ((p : Int) + (q : Int)) (by omega) (by omega) (by omega)) ?_
    refine pH 37 (.bool false) (dF (((p + q : Nat) : Int) = 128) (by omega)) ?_
    refine nT ?_
    refine wp_cond_false (by kernel_rfl) ?_
    refine wp_skip ?_
    refine au_block ?_
    refine au_then ?_
    have E : hF true G.ws (cpy G.rs p q rem) (ua G.ct (cv .u64 (q : Int))) = hF true (tk H s (k + q)).ws (tk H s (k + q)).rs (tk H s (k + q)).ct := by rw [e1, e3, if_neg (fun h => hf h.2), hct]
    rw [E] at M
    exact ⟨n - q, by omega, fun k_ => ([.int .i64 (p : Int), .int .i64 (q : Int), .string rem, .int .i64 (rem.size : Int), .bool true, .pointer (some ⟨g, 0, none⟩), .pointer (some ⟨g, 0, none⟩), .pointer (some ⟨g, 137, none⟩), .int .u64 G.ct, .int .u64 (Int.tmod G.ct 128), .int .i64 (p : Int), .pointer (some ⟨g, 0, none⟩), .pointer (some ⟨g, 0, none⟩), .pointer (some ⟨g, 9, none⟩), .int .i64 (p : Int), .slice (some ⟨g, (9 + p), none⟩) (128 - p) (128 - p), .string rem, .int .i64 (q : Int), .pointer (some ⟨g, 0, none⟩), .pointer (some ⟨g, 0, none⟩), .pointer (some ⟨g, 137, none⟩), .int .u64 G.ct, .int .i64 (q : Int), .int .u64 (cv .u64 (q : Int)), .int .u64 (ua G.ct (cv .u64 (q : Int))), .pointer (some ⟨g, 0, none⟩), .pointer (some ⟨g, 137, none⟩), .string rem, .int .i64 (q : Int), .string (s.extract (k + q) s.size), .int .i64 (p : Int), .int .i64 (q : Int), .int .i64 ((p + q : Nat) : Int), .bool false, v 38, v 39, v 40, v 41, v 42, v 43, v 44, v 45, v 46, v 47, v 48, v 49] : List Value).getD (k_ - 4) undef, k + q, s.extract (k + q) s.size, by omega, rfl, by kernel_rfl, M⟩


end Go.Proofs.YtmhfmhmpoobmlaaGreatDoor.Sha

/- The bytes of words, the highest first: the walk of highestFirst. -/
namespace Go.Proofs.YtmhfmhmpoobmlaaGreatDoor.Sha
open Go.RowKit

/-- The bytes of the first words. -/
def hV (f : Nat → Int) : Nat → List Value
  | 0 => []
  | j + 1 => hV f j ++ [.int .u8 (cv .u8 (sr (f j) 56))] ++ [.int .u8 (cv .u8 (sr (f j) 48))] ++ [.int .u8 (cv .u8 (sr (f j) 40))] ++ [.int .u8 (cv .u8 (sr (f j) 32))] ++ [.int .u8 (cv .u8 (sr (f j) 24))] ++ [.int .u8 (cv .u8 (sr (f j) 16))] ++ [.int .u8 (cv .u8 (sr (f j) 8))] ++ [.int .u8 (cv .u8 (sr (f j) 0))]
def hI (f : Nat → Int) : Nat → List Int
  | 0 => []
  | j + 1 => hI f j ++ [cv .u8 (sr (f j) 56), cv .u8 (sr (f j) 48), cv .u8 (sr (f j) 40), cv .u8 (sr (f j) 32), cv .u8 (sr (f j) 24), cv .u8 (sr (f j) 16), cv .u8 (sr (f j) 8), cv .u8 (sr (f j) 0)]
theorem hV_eq (f : Nat → Int) : ∀ j, hV f j = vs8 (hI f j)
  | 0 => rfl
  | j + 1 => by
    unfold hV hI
    rw [hV_eq f j]
    unfold vs8
    simp
theorem hI_length (f : Nat → Int) : ∀ j, (hI f j).length = 8 * j
  | 0 => rfl
  | j + 1 => by
    unfold hI
    rw [List.length_append, hI_length f j]
    simp
    omega
theorem hV_length (f : Nat → Int) (j : Nat) : (hV f j).length = 8 * j := by rw [hV_eq, vs8_length, hI_length]
theorem cv8_nn (x : Int) : 0 ≤ cv .u8 x ∧ cv .u8 x < 256 := by
  unfold cv
  simp [IntKind.wrap, IntKind.signed, IntKind.bits]
  omega
theorem hI_nn (f : Nat → Int) : ∀ j, ∀ x ∈ hI f j, 0 ≤ x ∧ x < 256
  | 0, x, h => by simp [hI] at h
  | j + 1, x, h => by
    unfold hI at h
    rcases List.mem_append.1 h with h | h
    · exact hI_nn f j x h
    · simp only [List.mem_cons, List.not_mem_nil, or_false] at h
      rcases h with rfl | rfl | rfl | rfl | rfl | rfl | rfl | rfl <;> exact cv8_nn _
theorem run_ixL {P : Program} {a : Act} {o : Oper} (t elem : TypeId) (hu : P.underlying t = some (.slice elem)) (hs : (P.info? elem).map (·.size) = some 1) (x ix : Operand) (ho : o.op = .indexAddr t x ix) (g off len cap : Nat) (hx : a.eval x = .slice (some ⟨g, off, none⟩) len cap) (k : IntKind) (i : Nat) (hi : a.eval ix = .int k (i : Int)) (hlt : i < len) (w : World) :
    (execOp a.eval o).run P w = .ok (.value (.pointer (some ⟨g, off + i, none⟩))) w := by
  cases hq : P.info? elem with
  | none => simp [hq] at hs
  | some u =>
    have hsz : u.size = 1 := by simpa [hq] using hs
    unfold execOp
    simp [ho, hx, hi, Instr.indexAt, asIntOf, run_underlying hu, sizeOf, typeInfo, hq, hsz, add_at, hlt]
theorem info5_ex : (Tryz.prog.info? 5).isSome = true := by kernel_rfl
theorem info5_eq : Tryz.prog.info? 5 = some ((Tryz.prog.info? 5).get info5_ex) := (Option.some_get info5_ex).symm
theorem info5_z : ((Tryz.prog.info? 5).get info5_ex).zero = some (.int .u8 0) := by kernel_rfl
set_option maxRecDepth 100000 in
set_option maxHeartbeats 4000000 in
theorem c_high (g off n cap : Nat) (f : Nat → Int) (hn : n ≤ 8) (w : World) (hL : Laid w) (hc : ∀ i, i < n → w.cell? ⟨g, off + i, none⟩ = some (.int .u64 (f i))) :
    Calls Tryz.prog 102 #[.slice (some ⟨g, off, none⟩) n cap] w fun r w' => r = .returned (.string (bs (hI f n))) ∧ Below w.heap.size w w' := by
  go_enter Tryz.func102, Tryz.ntmps102
  have M := Mem.start hL
  refine sR ?_
  refine pV 2 (.string ⟨#[]⟩) ?_
  refine nT ?_
  refine sR ?_
  refine pV 7 (.slice (some ⟨g, off, none⟩) n cap) ?_
  refine pV 8 (.int .i64 (n : Int)) ?_
  refine pH 9 (.int .i64 ((8 * n : Nat) : Int)) (iV (8 * (n : Int)) (by omega) (by omega) (by omega)) ?_
  refine pl_make M (want_no rfl) (some 10) rfl 32 5 _ (.int .u8 0) Tryz.underlying32 info5_eq info5_z (by kernel_rfl) (by decide +kernel) _ _ rfl .i64 .i64 (by kernel_rfl) (8 * n) (by kernel_rfl) (by omega) ?_
  intro g1 Zg1 u1 hZ M
  refine pV 3 (.slice (some ⟨g1, 0, none⟩) 0 (8 * n)) ?_
  refine nT ?_
  refine wp_seq ?_
  refine sR ?_
  refine pV 11 (.slice (some ⟨g, off, none⟩) n cap) ?_
  refine pV 12 (.int .i64 (n : Int)) ?_
  refine pV 13 (.int .i64 0) ?_
  refine nT ?_
  refine wp_block ?_
  refine au_loop (fun j a w' => ∃ (v : Nat → Value) (Z : Obj), a = ⟨#[.slice (some ⟨g, off, none⟩) n cap, undef, .string ⟨#[]⟩, .slice (some ⟨g1, 0, none⟩) (8 * j) (8 * n), undef, v 5, v 6, .slice (some ⟨g, off, none⟩) n cap, .int .i64 (n : Int), .int .i64 ((8 * n : Nat) : Int), .slice (some ⟨g1, 0, none⟩) 0 (8 * n), .slice (some ⟨g, off, none⟩) n cap, .int .i64 (n : Int), .int .i64 (j : Int), v 14, v 15, v 16, v 17, v 18, v 19, v 20, v 21, v 22, v 23, v 24, v 25, v 26, v 27, v 28, undef, undef], []⟩ ∧ SB Z (8 * n) (hV f j) ∧ Mem ⟨w, []⟩ [⟨g1, Z⟩] w') n ⟨fun _ => undef, Zg1, by kernel_rfl, hZ, M⟩ ?_ ?_
  · intro j a u0 hj hI
    obtain ⟨v, Z, rfl, hZ, M⟩ := hI
    refine sR ?_
    refine pH 14 (.bool true) (dT ((j : Int) < (n : Int)) (by omega)) ?_
    refine nT ?_
    refine wp_seq ?_
    refine wp_cond_true (by kernel_rfl) ?_
    refine wp_skip ?_
    refine au_then ?_
    refine wp_seq ?_
    refine wp_block ?_
    refine sR ?_
    refine pH 15 (.pointer (some ⟨g, off + j, none⟩)) (run_ixL 127 34 Tryz.underlying127 inz34 _ _ rfl g off n cap (by kernel_rfl) .i64 j (by kernel_rfl) hj) ?_
    refine pE M 16 g (off + j) (.int .u64 (f j)) (fun w M => M.oldc (hc j hj) (by simp)) ?_
    refine pV 5 (.int .u64 (f j)) ?_
    refine nT ?_
    refine sR ?_
    refine pV 6 (.int .i64 56) ?_
    refine nT ?_
    refine wp_block ?_
    refine wp_loop_rounds 9 ?_
    refine rounds_go ?_
    refine wp_seq ?_
    refine sR ?_
    refine pV 17 (.int .i64 56) ?_
    refine pV 18 (.bool true) ?_
    refine nT ?_
    refine wp_cond_true (by kernel_rfl) ?_
    refine wp_skip ?_
    refine au_then ?_
    refine wp_seq ?_
    refine wp_block ?_
    refine rg_lit ?_
    refine pV 21 (.slice (some ⟨g1, 0, none⟩) (8 * j) (8 * n)) ?_
    refine pV 22 (.int .u64 (f j)) ?_
    refine pV 23 (.int .i64 56) ?_
    refine pV 24 (.int .u64 (sr (f j) 56)) ?_
    refine pV 25 (.int .u8 (cv .u8 (sr (f j) 56))) ?_
    refine pl_mk M (want_no rfl) (some 26) rfl (fun g2 => .slice (some ⟨g2, 0, none⟩) 1 1) (.cells (av 1 (fun _ => .int .u8 (cv .u8 (sr (f j) 56)))) 5) (fun _ => by kernel_rfl) fun g2 u2 M => ?_
    refine pl_appR M (want_no rfl) (some 27) rfl 32 41 5 Tryz.underlying32 inz5 0 g1 ((8 * j)) (8 * n) Z (hV f j) rfl hZ (by simp [hV_length]) (by omega) 1 g2 5 (.int .u8 (cv .u8 (sr (f j) 56))) rfl rfl (fun _ => by kernel_rfl) ?_
    intro Y1 u3 hY1 M
    refine pV 3 (.slice (some ⟨g1, 0, none⟩) ((8 * j) + 1) (8 * n)) ?_
    refine pl_nil ?_
    refine au_block ?_
    refine au_then ?_
    refine rg_lit ?_
    refine pV 19 (.int .i64 56) ?_
    refine pV 20 (.int .i64 48) ?_
    refine pV 6 (.int .i64 48) ?_
    refine nT ?_
    refine rounds_go ?_
    refine wp_seq ?_
    refine sR ?_
    refine pV 17 (.int .i64 48) ?_
    refine pV 18 (.bool true) ?_
    refine nT ?_
    refine wp_cond_true (by kernel_rfl) ?_
    refine wp_skip ?_
    refine au_then ?_
    refine wp_seq ?_
    refine wp_block ?_
    refine rg_lit ?_
    refine pV 21 (.slice (some ⟨g1, 0, none⟩) ((8 * j) + 1) (8 * n)) ?_
    refine pV 22 (.int .u64 (f j)) ?_
    refine pV 23 (.int .i64 48) ?_
    refine pV 24 (.int .u64 (sr (f j) 48)) ?_
    refine pV 25 (.int .u8 (cv .u8 (sr (f j) 48))) ?_
    refine pl_mk M (want_no rfl) (some 26) rfl (fun g3 => .slice (some ⟨g3, 0, none⟩) 1 1) (.cells (av 1 (fun _ => .int .u8 (cv .u8 (sr (f j) 48)))) 5) (fun _ => by kernel_rfl) fun g3 u4 M => ?_
    refine pl_appR M (want_no rfl) (some 27) rfl 32 41 5 Tryz.underlying32 inz5 0 g1 (((8 * j) + 1)) (8 * n) Y1 (hV f j ++ [.int .u8 (cv .u8 (sr (f j) 56))]) rfl hY1 (by simp [hV_length]) (by omega) 2 g3 5 (.int .u8 (cv .u8 (sr (f j) 48))) rfl rfl (fun _ => by kernel_rfl) ?_
    intro Y2 u5 hY2 M
    refine pV 3 (.slice (some ⟨g1, 0, none⟩) (((8 * j) + 1) + 1) (8 * n)) ?_
    refine pl_nil ?_
    refine au_block ?_
    refine au_then ?_
    refine rg_lit ?_
    refine pV 19 (.int .i64 48) ?_
    refine pV 20 (.int .i64 40) ?_
    refine pV 6 (.int .i64 40) ?_
    refine nT ?_
    refine rounds_go ?_
    refine wp_seq ?_
    refine sR ?_
    refine pV 17 (.int .i64 40) ?_
    refine pV 18 (.bool true) ?_
    refine nT ?_
    refine wp_cond_true (by kernel_rfl) ?_
    refine wp_skip ?_
    refine au_then ?_
    refine wp_seq ?_
    refine wp_block ?_
    refine rg_lit ?_
    refine pV 21 (.slice (some ⟨g1, 0, none⟩) (((8 * j) + 1) + 1) (8 * n)) ?_
    refine pV 22 (.int .u64 (f j)) ?_
    refine pV 23 (.int .i64 40) ?_
    refine pV 24 (.int .u64 (sr (f j) 40)) ?_
    refine pV 25 (.int .u8 (cv .u8 (sr (f j) 40))) ?_
    refine pl_mk M (want_no rfl) (some 26) rfl (fun g4 => .slice (some ⟨g4, 0, none⟩) 1 1) (.cells (av 1 (fun _ => .int .u8 (cv .u8 (sr (f j) 40)))) 5) (fun _ => by kernel_rfl) fun g4 u6 M => ?_
    refine pl_appR M (want_no rfl) (some 27) rfl 32 41 5 Tryz.underlying32 inz5 0 g1 ((((8 * j) + 1) + 1)) (8 * n) Y2 (hV f j ++ [.int .u8 (cv .u8 (sr (f j) 56))] ++ [.int .u8 (cv .u8 (sr (f j) 48))]) rfl hY2 (by simp [hV_length]) (by omega) 3 g4 5 (.int .u8 (cv .u8 (sr (f j) 40))) rfl rfl (fun _ => by kernel_rfl) ?_
    intro Y3 u7 hY3 M
    refine pV 3 (.slice (some ⟨g1, 0, none⟩) ((((8 * j) + 1) + 1) + 1) (8 * n)) ?_
    refine pl_nil ?_
    refine au_block ?_
    refine au_then ?_
    refine rg_lit ?_
    refine pV 19 (.int .i64 40) ?_
    refine pV 20 (.int .i64 32) ?_
    refine pV 6 (.int .i64 32) ?_
    refine nT ?_
    refine rounds_go ?_
    refine wp_seq ?_
    refine sR ?_
    refine pV 17 (.int .i64 32) ?_
    refine pV 18 (.bool true) ?_
    refine nT ?_
    refine wp_cond_true (by kernel_rfl) ?_
    refine wp_skip ?_
    refine au_then ?_
    refine wp_seq ?_
    refine wp_block ?_
    refine rg_lit ?_
    refine pV 21 (.slice (some ⟨g1, 0, none⟩) ((((8 * j) + 1) + 1) + 1) (8 * n)) ?_
    refine pV 22 (.int .u64 (f j)) ?_
    refine pV 23 (.int .i64 32) ?_
    refine pV 24 (.int .u64 (sr (f j) 32)) ?_
    refine pV 25 (.int .u8 (cv .u8 (sr (f j) 32))) ?_
    refine pl_mk M (want_no rfl) (some 26) rfl (fun g5 => .slice (some ⟨g5, 0, none⟩) 1 1) (.cells (av 1 (fun _ => .int .u8 (cv .u8 (sr (f j) 32)))) 5) (fun _ => by kernel_rfl) fun g5 u8 M => ?_
    refine pl_appR M (want_no rfl) (some 27) rfl 32 41 5 Tryz.underlying32 inz5 0 g1 (((((8 * j) + 1) + 1) + 1)) (8 * n) Y3 (hV f j ++ [.int .u8 (cv .u8 (sr (f j) 56))] ++ [.int .u8 (cv .u8 (sr (f j) 48))] ++ [.int .u8 (cv .u8 (sr (f j) 40))]) rfl hY3 (by simp [hV_length]) (by omega) 4 g5 5 (.int .u8 (cv .u8 (sr (f j) 32))) rfl rfl (fun _ => by kernel_rfl) ?_
    intro Y4 u9 hY4 M
    refine pV 3 (.slice (some ⟨g1, 0, none⟩) (((((8 * j) + 1) + 1) + 1) + 1) (8 * n)) ?_
    refine pl_nil ?_
    refine au_block ?_
    refine au_then ?_
    refine rg_lit ?_
    refine pV 19 (.int .i64 32) ?_
    refine pV 20 (.int .i64 24) ?_
    refine pV 6 (.int .i64 24) ?_
    refine nT ?_
    refine rounds_go ?_
    refine wp_seq ?_
    refine sR ?_
    refine pV 17 (.int .i64 24) ?_
    refine pV 18 (.bool true) ?_
    refine nT ?_
    refine wp_cond_true (by kernel_rfl) ?_
    refine wp_skip ?_
    refine au_then ?_
    refine wp_seq ?_
    refine wp_block ?_
    refine rg_lit ?_
    refine pV 21 (.slice (some ⟨g1, 0, none⟩) (((((8 * j) + 1) + 1) + 1) + 1) (8 * n)) ?_
    refine pV 22 (.int .u64 (f j)) ?_
    refine pV 23 (.int .i64 24) ?_
    refine pV 24 (.int .u64 (sr (f j) 24)) ?_
    refine pV 25 (.int .u8 (cv .u8 (sr (f j) 24))) ?_
    refine pl_mk M (want_no rfl) (some 26) rfl (fun g6 => .slice (some ⟨g6, 0, none⟩) 1 1) (.cells (av 1 (fun _ => .int .u8 (cv .u8 (sr (f j) 24)))) 5) (fun _ => by kernel_rfl) fun g6 u10 M => ?_
    refine pl_appR M (want_no rfl) (some 27) rfl 32 41 5 Tryz.underlying32 inz5 0 g1 ((((((8 * j) + 1) + 1) + 1) + 1)) (8 * n) Y4 (hV f j ++ [.int .u8 (cv .u8 (sr (f j) 56))] ++ [.int .u8 (cv .u8 (sr (f j) 48))] ++ [.int .u8 (cv .u8 (sr (f j) 40))] ++ [.int .u8 (cv .u8 (sr (f j) 32))]) rfl hY4 (by simp [hV_length]) (by omega) 5 g6 5 (.int .u8 (cv .u8 (sr (f j) 24))) rfl rfl (fun _ => by kernel_rfl) ?_
    intro Y5 u11 hY5 M
    refine pV 3 (.slice (some ⟨g1, 0, none⟩) ((((((8 * j) + 1) + 1) + 1) + 1) + 1) (8 * n)) ?_
    refine pl_nil ?_
    refine au_block ?_
    refine au_then ?_
    refine rg_lit ?_
    refine pV 19 (.int .i64 24) ?_
    refine pV 20 (.int .i64 16) ?_
    refine pV 6 (.int .i64 16) ?_
    refine nT ?_
    refine rounds_go ?_
    refine wp_seq ?_
    refine sR ?_
    refine pV 17 (.int .i64 16) ?_
    refine pV 18 (.bool true) ?_
    refine nT ?_
    refine wp_cond_true (by kernel_rfl) ?_
    refine wp_skip ?_
    refine au_then ?_
    refine wp_seq ?_
    refine wp_block ?_
    refine rg_lit ?_
    refine pV 21 (.slice (some ⟨g1, 0, none⟩) ((((((8 * j) + 1) + 1) + 1) + 1) + 1) (8 * n)) ?_
    refine pV 22 (.int .u64 (f j)) ?_
    refine pV 23 (.int .i64 16) ?_
    refine pV 24 (.int .u64 (sr (f j) 16)) ?_
    refine pV 25 (.int .u8 (cv .u8 (sr (f j) 16))) ?_
    refine pl_mk M (want_no rfl) (some 26) rfl (fun g7 => .slice (some ⟨g7, 0, none⟩) 1 1) (.cells (av 1 (fun _ => .int .u8 (cv .u8 (sr (f j) 16)))) 5) (fun _ => by kernel_rfl) fun g7 u12 M => ?_
    refine pl_appR M (want_no rfl) (some 27) rfl 32 41 5 Tryz.underlying32 inz5 0 g1 (((((((8 * j) + 1) + 1) + 1) + 1) + 1)) (8 * n) Y5 (hV f j ++ [.int .u8 (cv .u8 (sr (f j) 56))] ++ [.int .u8 (cv .u8 (sr (f j) 48))] ++ [.int .u8 (cv .u8 (sr (f j) 40))] ++ [.int .u8 (cv .u8 (sr (f j) 32))] ++ [.int .u8 (cv .u8 (sr (f j) 24))]) rfl hY5 (by simp [hV_length]) (by omega) 6 g7 5 (.int .u8 (cv .u8 (sr (f j) 16))) rfl rfl (fun _ => by kernel_rfl) ?_
    intro Y6 u13 hY6 M
    refine pV 3 (.slice (some ⟨g1, 0, none⟩) (((((((8 * j) + 1) + 1) + 1) + 1) + 1) + 1) (8 * n)) ?_
    refine pl_nil ?_
    refine au_block ?_
    refine au_then ?_
    refine rg_lit ?_
    refine pV 19 (.int .i64 16) ?_
    refine pV 20 (.int .i64 8) ?_
    refine pV 6 (.int .i64 8) ?_
    refine nT ?_
    refine rounds_go ?_
    refine wp_seq ?_
    refine sR ?_
    refine pV 17 (.int .i64 8) ?_
    refine pV 18 (.bool true) ?_
    refine nT ?_
    refine wp_cond_true (by kernel_rfl) ?_
    refine wp_skip ?_
    refine au_then ?_
    refine wp_seq ?_
    refine wp_block ?_
    refine rg_lit ?_
    refine pV 21 (.slice (some ⟨g1, 0, none⟩) (((((((8 * j) + 1) + 1) + 1) + 1) + 1) + 1) (8 * n)) ?_
    refine pV 22 (.int .u64 (f j)) ?_
    refine pV 23 (.int .i64 8) ?_
    refine pV 24 (.int .u64 (sr (f j) 8)) ?_
    refine pV 25 (.int .u8 (cv .u8 (sr (f j) 8))) ?_
    refine pl_mk M (want_no rfl) (some 26) rfl (fun g8 => .slice (some ⟨g8, 0, none⟩) 1 1) (.cells (av 1 (fun _ => .int .u8 (cv .u8 (sr (f j) 8)))) 5) (fun _ => by kernel_rfl) fun g8 u14 M => ?_
    refine pl_appR M (want_no rfl) (some 27) rfl 32 41 5 Tryz.underlying32 inz5 0 g1 ((((((((8 * j) + 1) + 1) + 1) + 1) + 1) + 1)) (8 * n) Y6 (hV f j ++ [.int .u8 (cv .u8 (sr (f j) 56))] ++ [.int .u8 (cv .u8 (sr (f j) 48))] ++ [.int .u8 (cv .u8 (sr (f j) 40))] ++ [.int .u8 (cv .u8 (sr (f j) 32))] ++ [.int .u8 (cv .u8 (sr (f j) 24))] ++ [.int .u8 (cv .u8 (sr (f j) 16))]) rfl hY6 (by simp [hV_length]) (by omega) 7 g8 5 (.int .u8 (cv .u8 (sr (f j) 8))) rfl rfl (fun _ => by kernel_rfl) ?_
    intro Y7 u15 hY7 M
    refine pV 3 (.slice (some ⟨g1, 0, none⟩) ((((((((8 * j) + 1) + 1) + 1) + 1) + 1) + 1) + 1) (8 * n)) ?_
    refine pl_nil ?_
    refine au_block ?_
    refine au_then ?_
    refine rg_lit ?_
    refine pV 19 (.int .i64 8) ?_
    refine pV 20 (.int .i64 0) ?_
    refine pV 6 (.int .i64 0) ?_
    refine nT ?_
    refine rounds_go ?_
    refine wp_seq ?_
    refine sR ?_
    refine pV 17 (.int .i64 0) ?_
    refine pV 18 (.bool true) ?_
    refine nT ?_
    refine wp_cond_true (by kernel_rfl) ?_
    refine wp_skip ?_
    refine au_then ?_
    refine wp_seq ?_
    refine wp_block ?_
    refine rg_lit ?_
    refine pV 21 (.slice (some ⟨g1, 0, none⟩) ((((((((8 * j) + 1) + 1) + 1) + 1) + 1) + 1) + 1) (8 * n)) ?_
    refine pV 22 (.int .u64 (f j)) ?_
    refine pV 23 (.int .i64 0) ?_
    refine pV 24 (.int .u64 (sr (f j) 0)) ?_
    refine pV 25 (.int .u8 (cv .u8 (sr (f j) 0))) ?_
    refine pl_mk M (want_no rfl) (some 26) rfl (fun g9 => .slice (some ⟨g9, 0, none⟩) 1 1) (.cells (av 1 (fun _ => .int .u8 (cv .u8 (sr (f j) 0)))) 5) (fun _ => by kernel_rfl) fun g9 u16 M => ?_
    refine pl_appR M (want_no rfl) (some 27) rfl 32 41 5 Tryz.underlying32 inz5 0 g1 (((((((((8 * j) + 1) + 1) + 1) + 1) + 1) + 1) + 1)) (8 * n) Y7 (hV f j ++ [.int .u8 (cv .u8 (sr (f j) 56))] ++ [.int .u8 (cv .u8 (sr (f j) 48))] ++ [.int .u8 (cv .u8 (sr (f j) 40))] ++ [.int .u8 (cv .u8 (sr (f j) 32))] ++ [.int .u8 (cv .u8 (sr (f j) 24))] ++ [.int .u8 (cv .u8 (sr (f j) 16))] ++ [.int .u8 (cv .u8 (sr (f j) 8))]) rfl hY7 (by simp [hV_length]) (by omega) 8 g9 5 (.int .u8 (cv .u8 (sr (f j) 0))) rfl rfl (fun _ => by kernel_rfl) ?_
    intro Y8 u17 hY8 M
    refine pV 3 (.slice (some ⟨g1, 0, none⟩) (((((((((8 * j) + 1) + 1) + 1) + 1) + 1) + 1) + 1) + 1) (8 * n)) ?_
    refine pl_nil ?_
    refine au_block ?_
    refine au_then ?_
    refine rg_lit ?_
    refine pV 19 (.int .i64 0) ?_
    refine pV 20 (.int .i64 (-8)) ?_
    refine pV 6 (.int .i64 (-8)) ?_
    refine nT ?_
    refine rounds_go ?_
    refine wp_seq ?_
    refine sR ?_
    refine pV 17 (.int .i64 (-8)) ?_
    refine pV 18 (.bool false) ?_
    refine nT ?_
    refine wp_cond_false (by kernel_rfl) ?_
    refine wp_exit ?_
    refine au_then_exit ?_
    refine au_then_exit ?_
    refine au_block_exit ?_
    refine au_block ?_
    refine au_then ?_
    refine rg_lit ?_
    refine pH 28 (.int .i64 ((j + 1 : Nat) : Int)) (iV ((j : Int) + 1) (by omega) (by omega) (by omega)) ?_
    refine pV 13 (.int .i64 ((j + 1 : Nat) : Int)) ?_
    refine nT ?_
    exact ⟨fun k_ => ([.int .u64 (f j), .int .i64 (-8), undef, undef, undef, undef, undef, undef, undef, .bool true, .pointer (some ⟨g, off + j, none⟩), .int .u64 (f j), .int .i64 (-8), .bool false, .int .i64 0, .int .i64 (-8), .slice (some ⟨g1, 0, none⟩) ((((((((8 * j) + 1) + 1) + 1) + 1) + 1) + 1) + 1) (8 * n), .int .u64 (f j), .int .i64 0, .int .u64 (sr (f j) 0), .int .u8 (cv .u8 (sr (f j) 0)), .slice (some ⟨g9, 0, none⟩) 1 1, .slice (some ⟨g1, 0, none⟩) (((((((((8 * j) + 1) + 1) + 1) + 1) + 1) + 1) + 1) + 1) (8 * n), .int .i64 ((j + 1 : Nat) : Int)] : List Value).getD (k_ - 5) undef, Y8, by kernel_rfl, hY8, M.drop (.cons_cons _ (.cons _ (.cons _ (.cons _ (.cons _ (.cons _ (.cons _ (.cons _ (.cons _ (.slnil))))))))))⟩
  · intro a u0 hI
    obtain ⟨v, Z, rfl, hZ, M⟩ := hI
    refine sR ?_
    refine pH 14 (.bool false) (dF ((n : Int) < (n : Int)) (by omega)) ?_
    refine nT ?_
    refine wp_seq ?_
    refine wp_cond_false (by kernel_rfl) ?_
    refine wp_exit ?_
    refine au_then_exit ?_
    refine au_then_exit ?_
    refine au_block_exit ?_
    refine au_then ?_
    refine sR ?_
    refine pV 29 (.slice (some ⟨g1, 0, none⟩) (8 * n) (8 * n)) ?_
    rw [hV_eq] at hZ
    refine pl_back M (want_no rfl) (some 30) rfl _ rfl 0 g1 ((8 * n)) (8 * n) (by kernel_rfl) Z rfl (hI f n) (8 * n) hZ (hI_length f n) (hI_nn f n) ?_
    refine pV 2 (.string (bs (hI f n))) ?_
    refine nT ?_
    refine wp_ret ?_
    exact bodyPost_ret (v := .string (bs (hI f n))) (results_tmp1 Tryz.results102 _ _ _ (by kernel_rfl)) (by kernel_rfl) ⟨rfl, below_grown M.old⟩


end Go.Proofs.YtmhfmhmpoobmlaaGreatDoor.Sha

/- What strings.Repeat hands back. -/
namespace Go.Proofs.YtmhfmhmpoobmlaaGreatDoor.Sha
open Go.Shelf Go.RowKit
def repRen : Go.Shelf.Ren := ⟨fun | 105 => 57 | 212 => 103 | 99 => 104 | 165 => 105 | 166 => 106 | 170 => 107 | 169 => 108 | 263 => 139 | 264 => 140 | 206 => 141 | 240 => 142 | 241 => 143 | 276 => 147 | 277 => 148 | n => n, fun | 9 => 9 | 3 => 3 | 4 => 4 | 20 => 20 | 0 => 0 | 46 => 39 | 109 => 128 | 5 => 5 | 72 => 132 | 76 => 136 | 51 => 113 | 146 => 162 | 53 => 34 | 148 => 150 | 70 => 130 | 37 => 32 | 75 => 135 | 127 => 165 | 164 => 168 | 80 => 40 | n => n, fun | n => n⟩
theorem repLays : Go.Proofs.Lays.n105 Tryz.prog repRen := {
  mixed := by kernel_rfl
  f99 := Tryz.func104.trans (congrArg some (by kernel_rfl))
  f105 := Tryz.func57.trans (congrArg some (by kernel_rfl))
  f165 := Tryz.func105.trans (congrArg some (by kernel_rfl))
  f166 := Tryz.func106.trans (congrArg some (by kernel_rfl))
  f169 := Tryz.func108.trans (congrArg some (by kernel_rfl))
  f170 := Tryz.func107.trans (congrArg some (by kernel_rfl))
  f206 := Tryz.func141.trans (congrArg some (by kernel_rfl))
  f212 := Tryz.func103.trans (congrArg some (by kernel_rfl))
  f240 := Tryz.func142.trans (congrArg some (by kernel_rfl))
  f241 := Tryz.func143.trans (congrArg some (by kernel_rfl))
  f263 := Tryz.func139.trans (congrArg some (by kernel_rfl))
  f264 := Tryz.func140.trans (congrArg some (by kernel_rfl))
  f276 := Tryz.func147.trans (congrArg some (by kernel_rfl))
  f277 := Tryz.func148.trans (congrArg some (by kernel_rfl))
  t0 := Tryz.underlying0
  a0 := Tryz.isAgg0
  z0 := Tryz.sizeOf0
  v0 := Tryz.zeroValue0
  t3 := Tryz.underlying3
  a3 := Tryz.isAgg3
  z3 := Tryz.sizeOf3
  v3 := Tryz.zeroValue3
  t4 := Tryz.underlying4
  a4 := Tryz.isAgg4
  z4 := Tryz.sizeOf4
  v4 := Tryz.zeroValue4
  t5 := Tryz.underlying5
  a5 := Tryz.isAgg5
  z5 := Tryz.sizeOf5
  v5 := Tryz.zeroValue5
  t9 := Tryz.underlying9
  a9 := Tryz.isAgg9
  z9 := Tryz.sizeOf9
  v9 := Tryz.zeroValue9
  t20 := Tryz.underlying20
  a20 := Tryz.isAgg20
  z20 := Tryz.sizeOf20
  v20 := Tryz.zeroValue20
  t37 := Tryz.underlying32
  a37 := Tryz.isAgg32
  z37 := Tryz.sizeOf32
  v37 := Tryz.zeroValue32
  t46 := Tryz.underlying39
  a46 := Tryz.isAgg39
  z46 := Tryz.sizeOf39
  v46 := Tryz.zeroValue39
  t51 := Tryz.underlying113
  a51 := Tryz.isAgg113
  z51 := Tryz.sizeOf113
  v51 := Tryz.zeroValue113
  t53 := Tryz.underlying34
  a53 := Tryz.isAgg34
  z53 := Tryz.sizeOf34
  v53 := Tryz.zeroValue34
  t70 := Tryz.underlying130
  a70 := Tryz.isAgg130
  z70 := Tryz.sizeOf130
  v70 := Tryz.zeroValue130
  t72 := Tryz.underlying132
  a72 := Tryz.isAgg132
  z72 := Tryz.sizeOf132
  v72 := Tryz.zeroValue132
  t75 := Tryz.underlying135
  a75 := Tryz.isAgg135
  z75 := Tryz.sizeOf135
  v75 := Tryz.zeroValue135
  t76 := Tryz.underlying136
  a76 := Tryz.isAgg136
  z76 := Tryz.sizeOf136
  v76 := Tryz.zeroValue136
  t109 := Tryz.underlying128
  a109 := Tryz.isAgg128
  z109 := Tryz.sizeOf128
  v109 := Tryz.zeroValue128
  t127 := Tryz.underlying165
  a127 := Tryz.isAgg165
  z127 := Tryz.sizeOf165
  v127 := Tryz.zeroValue165
  t146 := Tryz.underlying162
  a146 := Tryz.isAgg162
  z146 := Tryz.sizeOf162
  v146 := Tryz.zeroValue162
  t148 := Tryz.underlying150
  a148 := Tryz.isAgg150
  z148 := Tryz.sizeOf150
  v148 := Tryz.zeroValue150
  t164 := Tryz.underlying168
  a164 := Tryz.isAgg168
  z164 := Tryz.sizeOf168
  v164 := Tryz.zeroValue168 }

theorem repExtra : Builder.Extra Tryz.prog repRen := {
  sizeBuilder := by kernel_rfl
  liesBuilder := by kernel_rfl
  t5 := Tryz.underlying5
  a5 := Tryz.isAgg5
  z5 := Tryz.sizeOf5
  v5 := Tryz.zeroValue5
  infoByte := by kernel_rfl
  cellsByte := by kernel_rfl
  sizeByte := by kernel_rfl
  neB5 := by decide }

/-- c bytes 0. -/
def zs (c : Nat) : ByteArray := ⟨(List.replicate c (0 : UInt8)).toArray⟩
theorem repeatL_one (c : Nat) : Lib.repeatL [0] c = List.replicate c 0 := by
  induction c with
  | zero => rfl
  | succ c ih => rw [Lib.repeatL, ih]; rfl
theorem c_rep (c : Nat) (w : World) (hc : c < 1000) : Calls Tryz.prog 57 #[.string ⟨#[0]⟩, .int .i64 (c : Int)] w fun r w' => r = .returned (.string (zs c)) ∧ Below w.heap.size w w' := by
  have h := Any.strings_Repeat repLays repExtra ⟨#[0]⟩ c w (by omega) (by show 1 * c ≤ _; omega)
  have e : (⟨(Lib.repeatL (⟨#[0]⟩ : ByteArray).data.toList c).toArray⟩ : ByteArray) = zs c := by
    unfold zs
    rw [show (⟨#[0]⟩ : ByteArray).data.toList = [0] from rfl, repeatL_one]
  rw [e] at h
  exact h

end Go.Proofs.YtmhfmhmpoobmlaaGreatDoor.Sha

/- The end of a text, its digest: the walks of end, Sum, Add and Of. -/
namespace Go.Proofs.YtmhfmhmpoobmlaaGreatDoor.Sha
open Go.RowKit

def r2 (a b : Int) : Nat → Int
  | 0 => a
  | _ => b
/-- What stands behind a text of so many bytes. -/
def padS (ct : Int) : ByteArray := (⟨#[128]⟩ ++ zs ((239 - (ct % 128).toNat) % 128)) ++ bs (hI (r2 (sr ct 61) (sl ct 3)) 2)
def sumV (H : HS) : ByteArray := bs (hI (tk H (padS H.ct) (padS H.ct).size).ws 8)
def ofV (s : ByteArray) : ByteArray := sumV (tk hs0 s s.size)
theorem run_cat {P : Program} {a : Act} {o : Oper} (t rt : TypeId) (x y : Operand) (ho : o.op = .binOp .add t x y rt) (s u : ByteArray) (hx : a.eval x = .string s) (hy : a.eval y = .string u) (hb : s.size + u.size ≤ 9223372036854775807) (w : World) :
    (execOp a.eval o).run P w = .ok (.value (.string (s ++ u))) w := by
  have h := run_string_add_sum (P := P) (w := w) s u hb
  unfold execOp
  simp [ho, hx, hy, eqGuard, binOp, h]
theorem zs_size (c : Nat) : (zs c).size = c := by simp [zs, ByteArray.size]
theorem below_same {w w' : World} {g : Nat} {Z : Obj} (h : Grw w w' [g]) (h1 : w.heap[g]? = some Z) (h2 : w'.heap[g]? = some Z) : Below w.heap.size w w' := ⟨h.os, h.tape, h.output, h.size, fun k hk => by
  by_cases e : k = g
  · subst e
    rw [h1, h2]
  · exact h.block k hk (fun e2 => e (List.mem_singleton.1 e2))⟩
theorem rem64 (n : Nat) : Int.tmod (n : Int) 128 = ((n % 128 : Nat) : Int) := by
  rw [Int.tmod_eq_emod_of_nonneg (by omega)]
  omega

set_option maxRecDepth 100000 in
set_option maxHeartbeats 4000000 in
theorem c_endA (H : HS) (hH : H.ok) (g : Nat) (A : ByteArray) (hA : padS H.ct = A) (w : World) (hL : Laid w) (hg : w.heap[g]? = some (.cells (av 138 (hF true H.ws H.rs H.ct)) 125)) (h0 : g ≠ 0) :
    Calls Tryz.prog 101 #[.pointer (some ⟨g, 0, none⟩)] w fun r w' => r = .returned (.tuple #[]) ∧ Grw w w' [g] ∧ w'.heap[g]? = some (.cells (av 138 (hF true (tk H A A.size).ws (tk H A A.size).rs (tk H A A.size).ct)) 125) := by
  go_enter Tryz.func101, Tryz.ntmps101
  have M := Mem.startp hL hg h0
  obtain ⟨p, hp⟩ : ∃ p, p = (H.ct % 128).toNat := ⟨_, rfl⟩
  have hp2 : H.ct % 128 = (p : Int) := by unfold HS.ok at hH; omega
  have hp1 : p < 128 := by omega
  refine wp_seq ?_
  refine rg_tail M 11 (by kernel_rfl) (by kernel_rfl) ?_
  simp only [List.take_succ_cons, List.take_zero]
  refine kV 5 (.pointer (some ⟨g, 0, none⟩)) ?_
  refine kV 6 (.pointer (some ⟨g, 0, none⟩)) ?_
  refine kV 7 (.pointer (some ⟨g, 137, none⟩)) ?_
  refine kE M 8 g 137 (.int .u64 H.ct) (fun w M => M.cell 0 rfl (by decide) rfl) ?_
  refine kV 9 (.int .u64 (sr H.ct 61)) ?_
  refine kV 10 (.pointer (some ⟨g, 0, none⟩)) ?_
  refine kV 11 (.pointer (some ⟨g, 0, none⟩)) ?_
  refine kV 12 (.pointer (some ⟨g, 137, none⟩)) ?_
  refine kE M 13 g 137 (.int .u64 H.ct) (fun w M => M.cell 0 rfl (by decide) rfl) ?_
  refine kV 14 (.int .u64 (sl H.ct 3)) ?_
  refine kV 2 (.int .u64 (sr H.ct 61)) ?_
  refine kl_nil fun u1 M => ?_
  refine pV 3 (.int .u64 (sl H.ct 3)) ?_
  refine nT ?_
  refine sR ?_
  refine pV 15 (.pointer (some ⟨g, 0, none⟩)) ?_
  refine pV 16 (.pointer (some ⟨g, 0, none⟩)) ?_
  refine pV 17 (.pointer (some ⟨g, 137, none⟩)) ?_
  refine pE M 18 g 137 (.int .u64 H.ct) (fun w M => M.cell 0 rfl (by decide) rfl) ?_
  refine pV 19 (.int .u64 (Int.tmod H.ct 128)) ?_
  refine pH 20 (.int .i64 (p : Int)) (fun w => Eq.trans (b := .ok (.value (.int .i64 (IntKind.wrap .i64 (Int.tmod H.ct 128)))) w) (by kernel_rfl) (by rw [rem128 H.ct hH.1 p hp2])) ?_
  refine pH 21 (.int .i64 ((239 - p : Nat) : Int)) (iV (239 - (p : Int)) (by omega) (by omega) (by omega)) ?_
  refine pH 22 (.int .i64 (((239 - p) % 128 : Nat) : Int)) (fun w => Eq.trans (b := .ok (.value (.int .i64 (Int.tmod ((239 - p : Nat) : Int) 128))) w) (by kernel_rfl) (by rw [rem64])) ?_
  refine pV 4 (.int .i64 (((239 - p) % 128 : Nat) : Int)) ?_
  refine nT ?_
  refine rg_lit ?_
  refine pV 23 (.pointer (some ⟨g, 0, none⟩)) ?_
  refine pV 24 (.int .i64 (((239 - p) % 128 : Nat) : Int)) ?_
  refine pC M 25 57 #[.string ⟨#[0]⟩, .int .i64 (((239 - p) % 128 : Nat) : Int)] (.string (zs ((239 - p) % 128))) (fun w M => c_rep ((239 - p) % 128) w (by omega)) fun u2 M => ?_
  refine pH 26 (.string (⟨#[128]⟩ ++ (zs ((239 - p) % 128)))) (run_cat 9 9 _ _ rfl ⟨#[128]⟩ ((zs ((239 - p) % 128))) (by kernel_rfl) (by kernel_rfl) (by rw [zs_size]; show 1 + _ ≤ _; omega)) ?_
  refine pV 27 (.int .u64 (sr H.ct 61)) ?_
  refine pV 28 (.int .u64 (sl H.ct 3)) ?_
  refine pl_mk M (want_no rfl) (some 29) rfl (fun g1 => .slice (some ⟨g1, 0, none⟩) 2 2) (.cells (av 2 (w64 (r2 (sr H.ct 61) (sl H.ct 3)))) 34) (fun _ => by kernel_rfl) fun g1 u3 M => ?_
  refine pC M 30 102 #[.slice (some ⟨g1, 0, none⟩) 2 2] (.string (bs (hI (r2 (sr H.ct 61) (sl H.ct 3)) 2))) (fun w M => c_high g1 0 2 2 (r2 (sr H.ct 61) (sl H.ct 3)) (by decide) w M.laid (fun i hi => by rw [Nat.zero_add]; exact M.cell 1 rfl hi rfl)) fun u4 M => ?_
  refine pH 31 (.string A) (fun w => Eq.trans (run_cat 9 9 _ _ rfl (⟨#[128]⟩ ++ zs ((239 - p) % 128)) (bs (hI (r2 (sr H.ct 61) (sl H.ct 3)) 2)) (by kernel_rfl) (by kernel_rfl) (by rw [ByteArray.size_append, zs_size, bs_size, hI_length]; show 1 + _ + _ ≤ _; omega) w) (by rw [← hA]; unfold padS; rw [← hp])) ?_
  refine pl_callp M (want_no rfl) (some 32) rfl 96 #[.pointer (some ⟨g, 0, none⟩), .string A] (.tuple #[]) 0 g (.cells (av 138 (hF true H.ws H.rs H.ct)) 125) (.cells (av 138 (hF true (tk H A A.size).ws (tk H A A.size).rs (tk H A A.size).ct)) 125) rfl (fun _ => by kernel_rfl) (fun w M => c_take H hH g A w M.laid (M.get 0 rfl) (M.ne0 0 rfl)) fun u5 M => ?_
  refine pl_nil ?_
  exact bodyPost_end (v := .tuple #[]) (results_none Tryz.results101 _ _) (by kernel_rfl) ⟨rfl, M.old, M.get 0 rfl⟩

theorem c_end (H : HS) (hH : H.ok) (g : Nat) (w : World) (hL : Laid w) (hg : w.heap[g]? = some (.cells (av 138 (hF true H.ws H.rs H.ct)) 125)) (h0 : g ≠ 0) : Calls Tryz.prog 101 #[.pointer (some ⟨g, 0, none⟩)] w fun r w' => r = .returned (.tuple #[]) ∧ Grw w w' [g] ∧ w'.heap[g]? = some (.cells (av 138 (hF true (tk H (padS H.ct) (padS H.ct).size).ws (tk H (padS H.ct) (padS H.ct).size).rs (tk H (padS H.ct) (padS H.ct).size).ct)) 125) := c_endA H hH g (padS H.ct) rfl w hL hg h0

set_option maxRecDepth 100000 in
set_option maxHeartbeats 4000000 in
theorem c_add (H : HS) (hH : H.ok) (g : Nat) (s : ByteArray) (w : World) (hL : Laid w) (hg : w.heap[g]? = some (.cells (av 138 (hF true H.ws H.rs H.ct)) 125)) (h0 : g ≠ 0) :
    Calls Tryz.prog 55 #[.pointer (some ⟨g, 0, none⟩), .string s] w fun r w' => r = .returned (.int .i64 0) ∧ Grw w w' [g] ∧ w'.heap[g]? = some (.cells (av 138 (hF true (tk H s s.size).ws (tk H s s.size).rs (tk H s s.size).ct)) 125) := by
  go_enter Tryz.func55, Tryz.ntmps55
  have M := Mem.startp hL hg h0
  refine sR ?_
  refine pV 4 (.int .i64 0) ?_
  refine nT ?_
  refine wp_seq ?_
  refine sR ?_
  refine pV 5 (.pointer (some ⟨g, 0, none⟩)) ?_
  refine pV 6 (.bool false) ?_
  refine pV 7 (.bool false) ?_
  refine pl_val (want_on 2 false rfl 7 rfl (by kernel_rfl)) (some 8) rfl (.pointer (some ⟨g, 0, none⟩)) (fun _ => by kernel_rfl) ?_
  refine pl_val (want_on 2 false rfl 7 rfl (by kernel_rfl)) (some 9) rfl (.pointer (some ⟨g, 0, none⟩)) (fun _ => by kernel_rfl) ?_
  refine pl_val (want_on 2 false rfl 7 rfl (by kernel_rfl)) (some 10) rfl (.pointer (some ⟨g, 0, none⟩)) (fun _ => by kernel_rfl) ?_
  refine pl_cell M (want_on 2 false rfl 7 rfl (by kernel_rfl)) (some 11) rfl 4 _ rfl g 0 (by kernel_rfl) (.bool true) (fun _ => by kernel_rfl) (fun w M => M.cell 0 rfl (by decide) rfl) ?_
  refine pl_val (want_on 2 false rfl 7 rfl (by kernel_rfl)) (some 12) rfl (.bool false) (fun _ => by kernel_rfl) ?_
  refine pV 13 (.bool false) ?_
  refine nT ?_
  refine wp_cond_false (by kernel_rfl) ?_
  refine wp_skip ?_
  refine au_then ?_
  refine sR ?_
  refine pV 14 (.pointer (some ⟨g, 0, none⟩)) ?_
  refine pV 15 (.string s) ?_
  refine pl_callp M (want_no rfl) (some 16) rfl 96 #[.pointer (some ⟨g, 0, none⟩), .string s] (.tuple #[]) 0 g (.cells (av 138 (hF true H.ws H.rs H.ct)) 125) (.cells (av 138 (hF true (tk H s s.size).ws (tk H s s.size).rs (tk H s s.size).ct)) 125) rfl (fun _ => by kernel_rfl) (fun w M => c_take H hH g s w M.laid (M.get 0 rfl) (M.ne0 0 rfl)) fun u1 M => ?_
  refine nT ?_
  refine sR ?_
  refine pV 4 (.int .i64 0) ?_
  refine nT ?_
  refine wp_ret ?_
  exact bodyPost_ret (v := .int .i64 0) (results_tmp1 Tryz.results55 _ _ _ (by kernel_rfl)) (by kernel_rfl) ⟨rfl, M.old, M.get 0 rfl⟩

set_option maxRecDepth 100000 in
set_option maxHeartbeats 4000000 in
theorem c_sum (H : HS) (hH : H.ok) (g : Nat) (w : World) (hL : Laid w) (hg : w.heap[g]? = some (.cells (av 138 (hF true H.ws H.rs H.ct)) 125)) (h0 : g ≠ 0) :
    Calls Tryz.prog 56 #[.pointer (some ⟨g, 0, none⟩)] w fun r w' => r = .returned (.string (sumV H)) ∧ Below w.heap.size w w' := by
  go_enter Tryz.func56, Tryz.ntmps56
  have M := Mem.startp hL hg h0
  refine sR ?_
  refine pV 2 (.string ⟨#[]⟩) ?_
  refine nT ?_
  refine wp_seq ?_
  refine sR ?_
  refine pV 4 (.pointer (some ⟨g, 0, none⟩)) ?_
  refine pV 5 (.bool false) ?_
  refine pV 6 (.bool false) ?_
  refine pl_val (want_on 2 false rfl 6 rfl (by kernel_rfl)) (some 7) rfl (.pointer (some ⟨g, 0, none⟩)) (fun _ => by kernel_rfl) ?_
  refine pl_val (want_on 2 false rfl 6 rfl (by kernel_rfl)) (some 8) rfl (.pointer (some ⟨g, 0, none⟩)) (fun _ => by kernel_rfl) ?_
  refine pl_val (want_on 2 false rfl 6 rfl (by kernel_rfl)) (some 9) rfl (.pointer (some ⟨g, 0, none⟩)) (fun _ => by kernel_rfl) ?_
  refine pl_cell M (want_on 2 false rfl 6 rfl (by kernel_rfl)) (some 10) rfl 4 _ rfl g 0 (by kernel_rfl) (.bool true) (fun _ => by kernel_rfl) (fun w M => M.cell 0 rfl (by decide) rfl) ?_
  refine pl_val (want_on 2 false rfl 6 rfl (by kernel_rfl)) (some 11) rfl (.bool false) (fun _ => by kernel_rfl) ?_
  refine pV 12 (.bool false) ?_
  refine nT ?_
  refine wp_cond_false (by kernel_rfl) ?_
  refine wp_skip ?_
  refine au_then ?_
  refine sR ?_
  refine pV 13 (.pointer (some ⟨g, 0, none⟩)) ?_
  refine pV 14 (.pointer (some ⟨g, 0, none⟩)) ?_
  refine pA M 15 0 138 (hF true H.ws H.rs H.ct) ?_
  refine pN M 3 (.cells (av 138 (hF false (fun _ => 0) (fun _ => 0) 0)) 125) fun g1 u1 M => ?_
  refine pl_put M (want_no rfl) rfl 125 _ _ rfl 1 g1 0 (by kernel_rfl) 138 125 (hF false (fun _ => 0) (fun _ => 0) 0) rfl 138 (hF true H.ws H.rs H.ct) (hF true H.ws H.rs H.ct) (by kernel_rfl) inz125 (by decide) (hF_one true H.ws H.rs H.ct) (fun j hj => by rw [if_pos (by omega), Nat.sub_zero]) fun u2 M => ?_
  refine nT ?_
  refine sR ?_
  refine pl_callp M (want_no rfl) (some 16) rfl 101 #[.pointer (some ⟨g1, 0, none⟩)] (.tuple #[]) 1 g1 (.cells (av 138 (hF true H.ws H.rs H.ct)) 125) (.cells (av 138 (hF true (tk H (padS H.ct) (padS H.ct).size).ws (tk H (padS H.ct) (padS H.ct).size).rs (tk H (padS H.ct) (padS H.ct).size).ct)) 125) rfl (fun _ => by kernel_rfl) (fun w M => c_end H hH g1 w M.laid (M.get 1 rfl) (M.ne0 1 rfl)) fun u3 M => ?_
  refine nT ?_
  refine sR ?_
  refine pV 17 (.pointer (some ⟨g1, 1, none⟩)) ?_
  refine pV 18 (.slice (some ⟨g1, 1, none⟩) 8 8) ?_
  refine pC M 19 102 #[.slice (some ⟨g1, 1, none⟩) 8 8] (.string (sumV H)) (fun w M => c_high g1 1 8 8 (tk H (padS H.ct) (padS H.ct).size).ws (by decide) w M.laid (fun i hi => M.cell 1 rfl (by omega) (hF_words _ _ _ _ i hi))) fun u4 M => ?_
  refine pV 2 (.string (sumV H)) ?_
  refine nT ?_
  refine wp_ret ?_
  exact bodyPost_ret (v := .string (sumV H)) (results_tmp1 Tryz.results56 _ _ _ (by kernel_rfl)) (by kernel_rfl) ⟨rfl, below_same M.old hg (M.get 0 rfl)⟩

theorem hs0_ok : hs0.ok := ⟨by decide, by decide⟩
set_option maxRecDepth 100000 in
set_option maxHeartbeats 4000000 in
theorem c_of (s : ByteArray) (w : World) (hL : Laid w)  :
    Calls Tryz.prog 45 #[.string s] w fun r w' => r = .returned (.string (ofV s)) ∧ Below w.heap.size w w' := by
  go_enter Tryz.func45, Tryz.ntmps45
  have M := Mem.start hL
  refine sR ?_
  refine pV 2 (.string ⟨#[]⟩) ?_
  refine nT ?_
  refine sR ?_
  refine pl_calln M (want_no rfl) (some 4) rfl 54 #[] (fun g1 => .pointer (some ⟨g1, 0, none⟩)) (.cells (av 138 (hF true hs0.ws hs0.rs hs0.ct)) 125) (fun _ => by kernel_rfl) (fun w M => c_new w M.laid) fun g1 u1 M => ?_
  refine pV 3 (.pointer (some ⟨g1, 0, none⟩)) ?_
  refine nT ?_
  refine sR ?_
  refine pV 5 (.pointer (some ⟨g1, 0, none⟩)) ?_
  refine pV 6 (.string s) ?_
  refine pl_callp M (want_no rfl) (some 7) rfl 96 #[.pointer (some ⟨g1, 0, none⟩), .string s] (.tuple #[]) 0 g1 (.cells (av 138 (hF true hs0.ws hs0.rs hs0.ct)) 125) (.cells (av 138 (hF true (tk hs0 s s.size).ws (tk hs0 s s.size).rs (tk hs0 s s.size).ct)) 125) rfl (fun _ => by kernel_rfl) (fun w M => c_take hs0 hs0_ok g1 s w M.laid (M.get 0 rfl) (M.ne0 0 rfl)) fun u2 M => ?_
  refine nT ?_
  refine sR ?_
  refine pV 8 (.pointer (some ⟨g1, 0, none⟩)) ?_
  refine pC M 9 56 #[.pointer (some ⟨g1, 0, none⟩)] (.string (ofV s)) (fun w M => c_sum (tk hs0 s s.size) (tk_ok hs0_ok s _) g1 w M.laid (M.get 0 rfl) (M.ne0 0 rfl)) fun u3 M => ?_
  refine pV 2 (.string (ofV s)) ?_
  refine nT ?_
  refine wp_ret ?_
  exact bodyPost_ret (v := .string (ofV s)) (results_tmp1 Tryz.results45 _ _ _ (by kernel_rfl)) (by kernel_rfl) ⟨rfl, below_grown M.old⟩


end Go.Proofs.YtmhfmhmpoobmlaaGreatDoor.Sha

/- Two digests that are known, and the walk of alive. -/
namespace Go.Proofs.YtmhfmhmpoobmlaaGreatDoor.Sha
open Go.RowKit

/-- what the words hang on -/
theorem sp1_congr {rs rs' : Nat → Int} : ∀ n, (∀ i, i < n → rs i = rs' i) → sp1 rs n = sp1 rs' n
  | 0, _ => rfl
  | n + 1, h => by
    unfold sp1
    rw [sp1_congr n fun i hi => h i (by omega), h n (by omega)]
theorem sp2_congr {rs rs' : Nat → Int} (h : ∀ i, i < 128 → rs i = rs' i) : ∀ n, sp2 rs n = sp2 rs' n
  | 0 => sp1_congr 128 h
  | n + 1 => by
    unfold sp2
    rw [sp2_congr h n]
theorem rd_congr {x rs rs' : Nat → Int} (h : ∀ i, i < 128 → rs i = rs' i) : ∀ n, rd x rs n = rd x rs' n
  | 0 => rfl
  | n + 1 => by
    unfold rd
    rw [rd_congr h n, sp2_congr h 64]
theorem mixV_congr {x rs rs' : Nat → Int} (h : ∀ i, i < 128 → rs i = rs' i) : mixV x rs = mixV x rs' := by
  unfold mixV
  rw [rd_congr h 80]
theorem st8_congr {x y : Nat → Int} (h : ∀ i, i < 8 → x i = y i) (c : Int) : st8 x c = st8 y c := by
  have h0 := h 0 (by decide)
  have h1 := h 1 (by decide)
  have h2 := h 2 (by decide)
  have h3 := h 3 (by decide)
  have h4 := h 4 (by decide)
  have h5 := h 5 (by decide)
  have h6 := h 6 (by decide)
  have h7 := h 7 (by decide)
  unfold st8 uF vF
  rw [h0, h1, h2, h3, h4, h5, h6, h7]
def lf (l : List Int) : Nat → Int := fun i => l.getD i 0
theorem sp2_cert (rs : Nat → Int) (W : List Int) (h1 : ∀ i, i < 16 → sp1 rs 128 i = lf W i) (h2 : ∀ j, j < 64 → lf W (16 + j) = ua (ua (ua (lf W j) (lS0 (lf W (j + 1)))) (lf W (j + 9))) (lS1 (lf W (j + 14)))) : ∀ n, n ≤ 64 → ∀ i, i < 16 + n → sp2 rs n i = lf W i
  | 0, _, i, hi => h1 i hi
  | n + 1, hn, i, hi => by
    unfold sp2 upd
    have ih := sp2_cert rs W h1 h2 n (by omega)
    by_cases e : i = 16 + n
    · rw [if_pos e, e, ih n (by omega), ih (n + 1) (by omega), ih (n + 9) (by omega), ih (n + 14) (by omega), h2 n (by omega)]
    · rw [if_neg e]
      exact ih i (by omega)
theorem rd_cert (x rs : Nat → Int) (W : List Int) (S : List (List Int)) (h0 : ∀ i, i < 8 → x i = lf (S.getD 0 []) i) (hW : ∀ i, i < 80 → sp2 rs 64 i = lf W i) (hS : ∀ j, j < 80 → ∀ i, i < 8 → st8 (lf (S.getD j [])) (ua (KF j) (lf W j)) i = lf (S.getD (j + 1) []) i) : ∀ j, j ≤ 80 → ∀ i, i < 8 → rd x rs j i = lf (S.getD j []) i
  | 0, _, i, hi => h0 i hi
  | j + 1, hj, i, hi => by
    unfold rd
    rw [st8_congr (rd_cert x rs W S h0 hW hS j (by omega)), hW j (by omega), hS j (by omega) i hi]
def chkW (W : List Int) : Bool := (List.range 64).all fun j => lf W (16 + j) == ua (ua (ua (lf W j) (lS0 (lf W (j + 1)))) (lf W (j + 9))) (lS1 (lf W (j + 14)))
def chkS (W : List Int) (S : List (List Int)) : Bool := (List.range 80).all fun j => (List.range 8).all fun i => st8 (lf (S.getD j [])) (ua (KF j) (lf W j)) i == lf (S.getD (j + 1) []) i
def chk1 (B W : List Int) : Bool := (List.range 16).all fun i => sp1 (lf B) 128 i == lf W i
theorem mix_cert (rs : Nat → Int) (B W : List Int) (S : List (List Int)) (hB : ∀ i, i < 128 → rs i = lf B i) (h1 : chk1 B W = true) (h2 : chkW W = true) (h3 : chkS W S = true) (h0 : ∀ i, i < 8 → HB i = lf (S.getD 0 []) i) : ∀ i, i < 8 → mixV HB rs i = ua (HB i) (lf (S.getD 80 []) i) := by
  intro i hi
  rw [mixV_congr hB]
  unfold chk1 at h1
  unfold chkW at h2
  unfold chkS at h3
  simp only [List.all_eq_true, List.mem_range, beq_iff_eq] at h1 h2 h3
  unfold mixV
  rw [rd_cert HB (lf B) W S h0 (sp2_cert (lf B) W h1 h2 64 (by omega)) h3 80 (by omega) i hi]

theorem zs_sb (c : Nat) : sb (zs c) = List.replicate c 0 := by
  unfold sb zs
  simp
theorem pad_sb (ct : Int) : sb (padS ct) = [128] ++ List.replicate ((239 - (ct % 128).toNat) % 128) 0 ++ hI (r2 (sr ct 61) (sl ct 3)) 2 := by
  unfold padS
  rw [sb_append, sb_append, zs_sb, sb_bs _ (hI_nn _ 2)]
  rfl
theorem pad_size (ct : Int) : (padS ct).size = 1 + (239 - (ct % 128).toNat) % 128 + 16 := by
  rw [← sb_length, pad_sb]
  simp [hI_length]
  omega

/-- A text of less than 112 bytes: one block. -/
theorem sum_one (s : ByteArray) (n : Nat) (hn : s.size = n) (h : n < 112) (B : List Int) (hB : sb s ++ sb (padS n) = B) : (tk (tk hs0 s s.size) (padS (tk hs0 s s.size).ct) (padS (tk hs0 s s.size).ct).size).ws = mixV HB (lf B) := by
  have r1 := tk_run hs0 hs0_ok s 0 0 s (fun i => by rw [Nat.zero_add]) rfl n (by omega)
  rw [Nat.zero_add] at r1
  obtain ⟨a1, a2, a3⟩ := r1
  rw [if_neg (by omega)] at a3
  rw [hn]
  have hct : (tk hs0 s n).ct = (n : Int) := by
    rw [a2, ua_eq]
    show (0 + (n : Int)) % _ = _
    omega
  rw [hct]
  have hps : (padS (n : Int)).size = 128 - n := by
    rw [pad_size]
    omega
  have r2 := tk_run (tk hs0 s n) (tk_ok hs0_ok s n) (padS n) 0 n (padS n) (fun i => by rw [Nat.zero_add]) (by show (tk hs0 s n).ct % 128 = _; rw [hct]; omega) (128 - n) (by omega)
  rw [Nat.zero_add] at r2
  obtain ⟨b1, b2, b3⟩ := r2
  rw [if_pos (by omega)] at b3
  rw [hps, b3]
  show mixV (tk hs0 s n).ws (cpy (tk hs0 s n).rs n (128 - n) (padS n)) = _
  rw [a3, a1]
  refine mixV_congr fun i hi => ?_
  unfold cpy lf
  rw [← hB]
  have hl : (sb s).length = n := by rw [sb_length, hn]
  by_cases hi2 : i < n
  · rw [if_neg (by omega), if_pos (by omega), Nat.sub_zero, bt_of_sb, List.getD_eq_getElem?_getD, List.getD_eq_getElem?_getD, List.getElem?_append_left (by omega)]
  · rw [if_pos (by omega), bt_of_sb, List.getD_eq_getElem?_getD, List.getD_eq_getElem?_getD, List.getElem?_append_right (by omega), hl]

end Go.Proofs.YtmhfmhmpoobmlaaGreatDoor.Sha

/- The walk of alive, and that of ShaNil. -/
namespace Go.Proofs.YtmhfmhmpoobmlaaGreatDoor.Sha
open Go.RowKit

theorem hI_congr {f g : Nat → Int} : ∀ n, (∀ i, i < n → f i = g i) → hI f n = hI g n
  | 0, _ => rfl
  | n + 1, h => by
    unfold hI
    rw [hI_congr n fun i hi => h i (by omega), h n (by omega)]
theorem ofV_size (s : ByteArray) : (ofV s).size = 64 := by
  unfold ofV sumV
  rw [bs_size, hI_length]
theorem run_strh {P : Program} {a : Act} {o : Oper} (t : TypeId) (hu : P.underlying t = some .string) (x hi : Operand) (ho : o.op = .slice t x none (some hi) none) (s : ByteArray) (hx : a.eval x = .string s) (k : IntKind) (i : Nat) (hh : a.eval hi = .int k (i : Int)) (hle : i ≤ s.size) (v : ByteArray) (hv : s.extract 0 i = v) (w : World) :
    (execOp a.eval o).run P w = .ok (.value (.string v)) w := by
  subst hv
  unfold execOp
  simp [ho, hx, hh, run_sliceAt_string w t (.string s) none (some (.int k i)) none hu, run_slice_string_h w t s hu k i (by omega) (by omega)]
end Go.Proofs.YtmhfmhmpoobmlaaGreatDoor.Sha

/- The document: the digest of a text, the walk of Of. -/
namespace Go.Proofs.YtmhfmhmpoobmlaaGreatDoor.Sha
open Go.RowKit

def pcs (l : List Int) : Nat → (Nat → Int)
  | 0 => HB
  | j + 1 => mixV (pcs l j) (fun i => l.getD (128 * j + i) 0)
end Go.Proofs.YtmhfmhmpoobmlaaGreatDoor.Sha

/- The document's digest and the program's are the same. -/
namespace Go.Proofs.YtmhfmhmpoobmlaaGreatDoor.Sha
open Go.RowKit

theorem bt_app_l (s p : ByteArray) (i : Nat) (h : i < s.size) : bt (s ++ p) i = bt s i := by
  rw [bt_of_sb, bt_of_sb, sb_append, List.getD_eq_getElem?_getD, List.getD_eq_getElem?_getD, List.getElem?_append_left (by rw [sb_length]; exact h)]
theorem bt_app_r (s p : ByteArray) (i : Nat) : bt (s ++ p) (s.size + i) = bt p i := by
  rw [bt_of_sb, bt_of_sb, sb_append, List.getD_eq_getElem?_getD, List.getD_eq_getElem?_getD, List.getElem?_append_right (by rw [sb_length]; omega), sb_length, Nat.add_sub_cancel_left]
theorem tk_app_l (H : HS) (s p : ByteArray) : ∀ k, k ≤ s.size → tk H (s ++ p) k = tk H s k
  | 0, _ => rfl
  | k + 1, h => by
    unfold tk
    rw [tk_app_l H s p k (by omega), bt_app_l s p k (by omega)]
theorem tk_app (H : HS) (s p : ByteArray) : ∀ k, tk H (s ++ p) (s.size + k) = tk (tk H s s.size) p k
  | 0 => tk_app_l H s p s.size (Nat.le_refl _)
  | k + 1 => by
    show ab (tk H (s ++ p) (s.size + k)) (bt (s ++ p) (s.size + k)) = ab (tk (tk H s s.size) p k) (bt p k)
    rw [tk_app H s p k, bt_app_r]
theorem tk_all (H : HS) (s p : ByteArray) : tk H (s ++ p) (s ++ p).size = tk (tk H s s.size) p p.size := by
  rw [ByteArray.size_append]
  exact tk_app H s p p.size

theorem tk_ct (s : ByteArray) : ∀ k, k < 1000000 → (tk hs0 s k).ct = (k : Int)
  | 0, _ => rfl
  | k + 1, h => by
    show ua (tk hs0 s k).ct 1 = _
    rw [tk_ct s k (by omega), ua_eq]
    omega

theorem blocks (D : ByteArray) : ∀ j, 128 * j < 1000000 → (tk hs0 D (128 * j)).ws = pcs (sb D) j
  | 0, _ => rfl
  | j + 1, h => by
    have hct : (tk hs0 D (128 * j)).ct % 128 = ((0 : Nat) : Int) := by
      rw [tk_ct D _ (by omega)]
      omega
    obtain ⟨_, _, h3⟩ := tk_run hs0 hs0_ok D (128 * j) 0 (D.extract (128 * j) D.size) (fun i => bt_extract D (128 * j) i) hct 128 (by omega)
    rw [if_pos (by omega)] at h3
    show (tk hs0 D (128 * j + 128)).ws = _
    rw [h3, blocks D j (by omega)]
    show _ = mixV (pcs (sb D) j) (fun i => (sb D).getD (128 * j + i) 0)
    refine mixV_congr fun i hi => ?_
    unfold cpy
    rw [if_pos (by omega), Nat.sub_zero, bt_extract, bt_of_sb]

end Go.Proofs.YtmhfmhmpoobmlaaGreatDoor.Sha

/- A region that draws its order and calls functions which make memory of their own but change none that was there: one walk in the order of the text serves every order; behind it a tail whose order is forced. -/
namespace Go.Proofs.YtmhfmhmpoobmlaaGreatDoor
open Go.RowKit

section
variable {P : Program} {ops : Array Oper} {md : Region.Mode} {C : World → Prop}

/-- For f rounds only operations below n come up, each quiet in the class; then L. -/
def HeadQ (P : Program) (md : Region.Mode) (ops : Array Oper) (C : World → Prop) (n : Nat) (L : Array Bool → Act → Prop) : Nat → Array Bool → Act → Prop
  | 0, done, a => L done a
  | f + 1, done, a => Region.ready md ops done ≠ [] ∧ ∀ i ∈ Region.ready md ops done, i < n ∧ qOp P ops C i (HeadQ P md ops C n L f (done.setIfInBounds i true)) a

theorem HeadQ.any {n g : Nat} {L : Array Bool → Act → Prop} {Q : Exit → Act → World → Prop} (hL : ∀ done a w, C w → L done a → wpAny P md ops Q g done a w) :
    ∀ (f : Nat) (done : Array Bool) (a : Act) (w : World), C w → HeadQ P md ops C n L f done a → wpAny P md ops Q (f + g) done a w := by
  intro f
  induction f with
  | zero =>
    intro done a w hw h
    rw [Nat.zero_add]
    exact hL done a w hw h
  | succ f ih =>
    intro done a w hw h
    have e : f + 1 + g = (f + g) + 1 := by omega
    rw [e]
    exact ⟨fun h0 => absurd h0 h.1, fun i hi => wpOp_of_qOp hw (fun a' w' hw' h' => ih _ a' w' hw' h') (h.2 i hi).2⟩

theorem HeadQ.first {n i : Nat} {oi : Oper} {v : Value} {L : Array Bool → Act → Prop} (hi : ops[i]? = some oi) (hsel : ∀ (j : Nat) (o : Oper) cs b, ops[j]? = some o → o.op ≠ .select cs b)
    (hs : Region.sinkB md ops n = true) (hc : Region.chainB md ops n = true) (hn : n < ops.size) (hin : i < n) (hend : ∀ done a, L done a → ∀ j ∈ Region.ready md ops done, n ≤ j) :
    ∀ (f : Nat) (done : Array Bool) (a : Act), HeadInv md ops n done →
      (∀ j oj, ops[j]? = some oj → j ≠ i → done.getD j true = false → (∀ e ∈ oj.after, Region.binds md e = true → e.on ≠ i) → oi.apart ops oj = true) →
      i ∈ Region.ready md ops done → YieldsIn P ops C oi v a → HeadQ P md ops C n L f (done.setIfInBounds i true) (a.put oi.dst v) → HeadQ P md ops C n L (f + 1) done a := by
  intro f
  induction f with
  | zero =>
    intro done a inv _ hr hy H
    refine ⟨fun h => (by rw [h] at hr; cases hr), fun j hj => ?_⟩
    have hjn : j < n := Nat.lt_of_not_le fun h => tail_waits hs hc hn inv _ i rfl hin (mem_ready.1 hr).1 j h hj
    refine ⟨hjn, ?_⟩
    by_cases hji : j = i
    · subst hji
      exact hy.qOp hi H
    · have := hend _ _ H j (ready_mono hj hji)
      omega
  | succ f ih =>
    intro done a inv hfree hr hy H
    have hun := (mem_ready.1 hr).1
    refine ⟨fun h => (by rw [h] at hr; cases hr), fun j hj => ?_⟩
    have hjn : j < n := Nat.lt_of_not_le fun h => tail_waits hs hc hn inv _ i rfl hin hun j h hj
    refine ⟨hjn, ?_⟩
    by_cases hji : j = i
    · subst hji
      exact hy.qOp hi H
    · obtain ⟨hjun, oj, hoj, hall⟩ := mem_ready.1 hj
      have hno : ∀ e ∈ oj.after, Region.binds md e = true → e.on ≠ i := by
        intro e he hb heq
        have h1 := hall e he hb
        rw [heq, getD_both hun] at h1
        cases h1
      have h2 := qOp_put hoj (hfree j oj hoj hji hjun hno) (fun cs b => hsel i oi cs b hi) (fun cs b => hsel j oj cs b hoj) hy (H.2 j (ready_mono hj hji)).2
      refine qOp_mono (fun a' h3 => ih (done.setIfInBounds j true) a' (inv.set hj hjn) ?_ (ready_mono hr (Ne.symm hji)) h3.1 ?_) h2
      · intro k ok hk hki hku hkn
        refine hfree k ok hk hki ?_ hkn
        by_cases hjk : j = k
        · subst hjk
          exact hjun
        · rw [getD_set_ne true hjk] at hku
          exact hku
      · rw [Array.setIfInBounds_comm _ _ hji]
        exact h3.2

theorem HeadQ.lex {n g : Nat} {K : Act → Prop} (hsel : Region.noSelect ops = true) (hs : Region.sinkB md ops n = true) (hc : Region.chainB md ops n = true) (hn : n < ops.size) (l : List Oper) :
    ∀ (k : Nat) (done : Array Bool) (a : Act), (∀ j, j < l.length → l[j]? = ops[k + j]?) → k + l.length = n → HeadInv md ops n done →
    Region.lexHead md ops g l.length k done = true → wpQuiet P ops C K l a → HeadQ P md ops C n (fun d a' => Region.seqB md ops g n d = true ∧ K a') l.length done a := by
  induction l with
  | nil =>
    intro k done a _ hk _ hB h
    have e : k = n := by simpa using hk
    subst e
    exact ⟨by simpa [Region.lexHead] using hB, h⟩
  | cons o l ih =>
    intro k done a hl hk inv hB h
    have h0 : ops[k]? = some o := by simpa using (hl 0 (by simp)).symm
    simp only [List.length_cons, Region.lexHead, Bool.and_eq_true] at hB
    simp only [List.length_cons] at hk
    have hr : k ∈ Region.ready md ops done := by simpa using hB.1.1
    have hq : qOp P ops C k (wpQuiet P ops C K l) a := by
      unfold qOp
      simp only [h0]
      exact h
    obtain ⟨v, hy, hK⟩ := yieldsIn_of_qOp h0 hq
    refine HeadQ.first h0 (Region.noSelect_spec hsel) hs hc hn (by omega) (fun d a' hL => seqB_ready hL.1) l.length done a inv (Region.free_spec h0 hB.1.2) hr hy ?_
    refine ih (k + 1) _ _ (fun j hj => ?_) (by omega) (inv.set hr (by omega)) hB.2 hK
    have := hl (j + 1) (by simp; omega)
    simpa [Nat.add_assoc, Nat.add_comm 1 j] using this

theorem wp_region_quiet_tail {id : Nat} {Q : Exit → Act → World → Prop} {a : Act} {w : World} {l : List Oper} (n : Nat) (hm : P.follows .mixedOrders = true) (hB : Region.lexTailB .any l.toArray n = true) (hC : C { w with drawn := w.drawn + 1 })
    (h : wpQuiet P l.toArray C (fun a' => ∀ w', C w' → wpList P l.toArray Q (l.drop n) a' w') (l.take n) a) : (Code.region id l.toArray true).wp P Q a w := by
  simp only [Region.lexTailB, Bool.and_eq_true, decide_eq_true_eq] at hB
  obtain ⟨⟨⟨⟨hsel, hn⟩, hs⟩, hc⟩, hlex⟩ := hB
  have hn' : n < l.length := by simpa using hn
  have htl : (l.take n).length = n := by simp; omega
  have hdl : (l.drop n).length = l.toArray.size - n := by simp
  have inv : HeadInv .any l.toArray n (Array.replicate l.toArray.size false) :=
    ⟨by simp, fun j oj _ hl => (by rw [getD_replicate_false] at hl; cases hl), fun t _ ht => getD_in (by simpa using ht) (getD_replicate_false _ _)⟩
  have H := HeadQ.lex (md := .any) (g := l.toArray.size - n) hsel hs hc hn (l.take n) 0 _ a (fun j hj => by rw [htl] at hj; simp [hj]) (by simpa using htl) inv (by rw [htl]; exact hlex) h
  refine wp_region_any hm ?_
  have H2 := HeadQ.any (Q := Q) (g := l.toArray.size - n) (fun done a' w' hw' hL => by
    have := wpAny_of_seq (md := .any) (Q' := Q) (l.drop n) n done a' w' (fun j => by simp [List.getElem?_drop]) (by rw [hdl]; exact hL.1) (hL.2 w' hw')
    rwa [hdl] at this) _ _ _ _ hC H
  rw [htl, show n + (l.toArray.size - n) = l.toArray.size by omega] at H2
  exact H2

/-- A world in which all that was there in W is as it was. -/
structure KW (W : World) where
  w : World
  keep : Below W.heap.size W w

def KW.next {W : World} (s : KW W) (w' : World) (h : Below s.w.heap.size s.w w') : KW W := ⟨w', s.keep.trans (h.mono s.keep.size)⟩

theorem KW.drew (W : World) : ∃ s : KW W, ({ W with drawn := W.drawn + 1 } : World) = s.w := ⟨⟨W.drew, (Below.refl _ _).drew⟩, rfl⟩

theorem keep_of {W : World} {s : KW W} {f : FuncId} {args : Array Value} {v : Value}
    (h : Calls P f args s.w fun e w' => e = .returned v ∧ Below s.w.heap.size s.w w') : Calls P f args s.w fun e w'' => e = .returned v ∧ ∃ t : KW W, w'' = t.w :=
  h.mono fun _ w' ⟨he, hb⟩ => ⟨he, s.next w' hb, rfl⟩

theorem wp_region_keep {id : Nat} {Q : Exit → Act → World → Prop} {a : Act} {w : World} {l : List Oper} (hm : P.follows .mixedOrders = true) (hB : Region.lexB .any l.toArray = true)
    (h : wpQuiet P l.toArray (fun w' => ∃ s : KW w, w' = s.w) (fun a' => ∀ s : KW w, Q .normal a' s.w) l a) : (Code.region id l.toArray true).wp P Q a w := by
  refine wp_region_quiet (C := fun w' => ∃ s : KW w, w' = s.w) hm hB (KW.drew w) ?_
  have e : (fun a' => ∀ w', (∃ s : KW w, w' = s.w) → Q .normal a' w') = fun a' => ∀ s : KW w, Q .normal a' s.w := by
    funext a'
    exact propext ⟨fun h s => h _ ⟨s, rfl⟩, fun h w' ⟨s, hs⟩ => hs ▸ h s⟩
  rw [e]
  exact h

theorem wp_region_keep_tail {id : Nat} {Q : Exit → Act → World → Prop} {a : Act} {w : World} {l : List Oper} (n : Nat) (hm : P.follows .mixedOrders = true) (hB : Region.lexTailB .any l.toArray n = true)
    (h : wpQuiet P l.toArray (fun w' => ∃ s : KW w, w' = s.w) (fun a' => ∀ s : KW w, wpList P l.toArray Q (l.drop n) a' s.w) (l.take n) a) : (Code.region id l.toArray true).wp P Q a w := by
  refine wp_region_quiet_tail (C := fun w' => ∃ s : KW w, w' = s.w) n hm hB (KW.drew w) ?_
  have e : (fun a' => ∀ w', (∃ s : KW w, w' = s.w) → wpList P l.toArray Q (l.drop n) a' w') = fun a' => ∀ s : KW w, wpList P l.toArray Q (l.drop n) a' s.w := by
    funext a'
    exact propext ⟨fun h s => h _ ⟨s, rfl⟩, fun h w' ⟨s, hs⟩ => hs ▸ h s⟩
  rw [e]
  exact h

end
end Go.Proofs.YtmhfmhmpoobmlaaGreatDoor

/- A region that draws its order, whose calls make memory of their own, and that makes one variable at a time that is left open: one walk in the order of the text serves every order. -/
namespace Go.Proofs.YtmhfmhmpoobmlaaGreatDoor
open Go.RowKit

section
variable {P : Program} {ops : Array Oper} {md : Region.Mode} {W : World} {n : Nat}

/-- What one operation may come to in the world w: the value v in that very world; or a call that hands back v and changes nothing that was there. -/
def keepUpon (P : Program) (w : World) (v : Value) : Result Next → Prop
  | .ok (.value u) w' => w' = w ∧ u = v
  | .ok .skip w' => w' = w ∧ v = undef
  | .ok (.enter f args) w' => w' = w ∧ Calls P f args w (fun e w'' => e = .returned v ∧ Below w.heap.size w w'')
  | _ => False

def keepAt (P : Program) (o : Oper) (a : Act) (w : World) (v : Value) : Prop := keepUpon P w v ((execOp a.eval o).run P w)

def keepOp (P : Program) (o : Oper) (a : Act) (W : World) (K : Act → Prop) : Prop := ∃ v, (∀ s : KW W, keepAt P o a s.w v) ∧ K (a.put o.dst v)

/-- The walk in the order of the text. -/
def wpK (P : Program) (ops : Array Oper) (W : World) (Q : Act → Prop) : List Oper → Act → Prop
  | [], a => Q a
  | o :: rest, a => if Region.wanted o (yielded ops a.tmps) then keepOp P o a W (wpK P ops W Q rest) else wpK P ops W Q rest (a.put o.dst undef)

theorem wpK_nil {Q : Act → Prop} {a : Act} (h : Q a) : wpK P ops W Q [] a := h
theorem wpK_step {Q : Act → Prop} {a : Act} {o : Oper} {rest : List Oper}
    (h : ∀ K : Act → Prop, (∀ a, wpK P ops W Q rest a → K a) → if Region.wanted o (yielded ops a.tmps) then keepOp P o a W K else K (a.put o.dst undef)) : wpK P ops W Q (o :: rest) a :=
  h _ (fun _ h => h)

def YK (P : Program) (ops : Array Oper) (W : World) (o : Oper) (v : Value) (a : Act) : Prop :=
  (Region.wanted o (yielded ops a.tmps) = true ∧ ∀ s : KW W, keepAt P o a s.w v) ∨ (Region.wanted o (yielded ops a.tmps) = false ∧ v = undef)

/-- Operation i comes up: it yields one value in every world. -/
def kOp (P : Program) (ops : Array Oper) (W : World) (i : Nat) (K : Act → Prop) (a : Act) : Prop := ∃ o v, ops[i]? = some o ∧ YK P ops W o v a ∧ K (a.put o.dst v)

theorem YK.same {o : Oper} {v : Value} {a a' : Act} (hy : YK P ops W o v a) (he : execOp a'.eval o = execOp a.eval o) (hw : Region.wanted o (yielded ops a'.tmps) = Region.wanted o (yielded ops a.tmps)) : YK P ops W o v a' := by
  unfold YK keepAt at *
  rw [he, hw]
  exact hy

theorem wpK_yields {Q : Act → Prop} {a : Act} {o : Oper} {rest : List Oper} (h : wpK P ops W Q (o :: rest) a) : ∃ v, YK P ops W o v a ∧ wpK P ops W Q rest (a.put o.dst v) := by
  unfold wpK at h
  by_cases hw : Region.wanted o (yielded ops a.tmps) = true
  · rw [if_pos hw] at h
    obtain ⟨v, h1, h2⟩ := h
    exact ⟨v, .inl ⟨hw, h1⟩, h2⟩
  · rw [if_neg hw] at h
    exact ⟨undef, .inr ⟨by simpa using hw, rfl⟩, h⟩

/-- In a world that keeps W1, which keeps W: the operation is carried out, and W1 is kept. -/
theorem YK.wpOp {W1 : World} (hW : Below W.heap.size W W1) {i : Nat} {o : Oper} {v : Value} {a : Act} (hi : ops[i]? = some o) (hy : YK P ops W o v a) {K : Act → World → Prop} {Q : Exit → Act → World → Prop} (s : KW W1)
    (h : ∀ t : KW W1, K (a.put o.dst v) t.w) : wpOp P ops Q i K a s.w := by
  unfold Go.wpOp
  simp only [hi]
  rcases hy with ⟨hw, hv⟩ | ⟨hw, rfl⟩
  · rw [if_pos hw]
    refine .inl ?_
    have hk := hv ⟨s.w, hW.trans (s.keep.mono hW.size)⟩
    unfold keepAt at hk
    unfold Oper.wp
    generalize (execOp a.eval o).run P s.w = r at *
    cases r with
    | ok x w' =>
      cases x <;> simp only [keepUpon] at hk <;> simp only [Oper.upon]
      case value u =>
        obtain ⟨e1, e2⟩ := hk
        rw [e1, e2]
        exact h s
      case skip =>
        obtain ⟨e1, e2⟩ := hk
        rw [e1, ← e2]
        exact h s
      case enter f args =>
        obtain ⟨e1, hc⟩ := hk
        rw [e1]
        exact hc.mono fun e w'' ⟨he, hb⟩ => by subst he; exact h (s.next w'' hb)
    | halt x w' => simp only [keepUpon] at hk
  · rw [if_neg (by rw [hw]; exact Bool.false_ne_true)]
    exact h s

/-- f operations below n are still to come, and so is operation n, which makes the variable. -/
def HeadK (P : Program) (md : Region.Mode) (ops : Array Oper) (W : World) (n : Nat) (L : Array Bool → Act → Prop) : Nat → Array Bool → Act → Prop
  | 0, done, a => L done a
  | f + 1, done, a => (∃ i, i < n ∧ i ∈ Region.ready md ops done) ∧ ∀ i ∈ Region.ready md ops done, i = n ∨ (i < n ∧ kOp P ops W i (HeadK P md ops W n L f (done.setIfInBounds i true)) a)

theorem HeadK.first {i : Nat} {oi : Oper} {v : Value} {L : Array Bool → Act → Prop} (hi : ops[i]? = some oi) (hsel : ∀ (j : Nat) (o : Oper) cs b, ops[j]? = some o → o.op ≠ .select cs b)
    (hs : Region.sinkB md ops (n + 1) = true) (hc : Region.chainB md ops (n + 1) = true) (hn : n + 1 < ops.size) (hin : i < n) (hend : ∀ done a, L done a → Region.ready md ops done = [n]) :
    ∀ (f : Nat) (done : Array Bool) (a : Act), HeadInv md ops (n + 1) done →
      (∀ j oj, ops[j]? = some oj → j ≠ i → done.getD j true = false → (∀ e ∈ oj.after, Region.binds md e = true → e.on ≠ i) → oi.apart ops oj = true) →
      i ∈ Region.ready md ops done → YK P ops W oi v a → HeadK P md ops W n L f (done.setIfInBounds i true) (a.put oi.dst v) → HeadK P md ops W n L (f + 1) done a := by
  intro f
  induction f with
  | zero =>
    intro done a inv _ hr hy H
    refine ⟨⟨i, hin, hr⟩, fun j hj => ?_⟩
    by_cases hji : j = i
    · subst hji
      exact .inr ⟨hin, oi, v, hi, hy, H⟩
    · have h1 := ready_mono hj hji
      rw [hend _ _ H] at h1
      exact .inl (by simpa using h1)
  | succ f ih =>
    intro done a inv hfree hr hy H
    have hun := (mem_ready.1 hr).1
    refine ⟨⟨i, hin, hr⟩, fun j hj => ?_⟩
    have hjn : j < n + 1 := Nat.lt_of_not_le fun h => tail_waits hs hc hn inv _ i rfl (by omega) hun j h hj
    by_cases hji : j = i
    · subst hji
      exact .inr ⟨hin, oi, v, hi, hy, H⟩
    · rcases H.2 j (ready_mono hj hji) with h0 | ⟨hjlt, oj, u, hoj, hyj, hK⟩
      · exact .inl h0
      · obtain ⟨hjun, oj', hoj', hall⟩ := mem_ready.1 hj
        have e : oj' = oj := Option.some.inj (hoj'.symm.trans hoj)
        subst e
        have hno : ∀ e ∈ oj'.after, Region.binds md e = true → e.on ≠ i := by
          intro e he hb heq
          have h1 := hall e he hb
          rw [heq, getD_both hun] at h1
          cases h1
        obtain ⟨h1, h2, h3⟩ := Oper.apart_spec (hfree j oj' hoj hji hjun hno)
        have hyj' : YK P ops W oj' u a := hyj.same (execOp_put oj' (fun cs b => hsel j oj' cs b hoj) a oi.dst v h1).symm (wanted_put oj' a oi.dst v h1).symm
        have hyi' : YK P ops W oi v (a.put oj'.dst u) := hy.same (execOp_put oi (fun cs b => hsel i oi cs b hi) a oj'.dst u h3) (wanted_put oi a oj'.dst u h3)
        refine .inr ⟨hjlt, oj', u, hoj, hyj', ih (done.setIfInBounds j true) _ (inv.set hj hjn) ?_ (ready_mono hr (Ne.symm hji)) hyi' ?_⟩
        · intro k ok hk hki hku hkn
          refine hfree k ok hk hki ?_ hkn
          by_cases hjk : j = k
          · subst hjk
            exact hjun
          · rw [getD_set_ne true hjk] at hku
            exact hku
        · rw [Array.setIfInBounds_comm _ _ hji, ← Act.put_comm a v u h2]
          exact hK

/-- The order of the text may be taken; at the head's end just operation n is left ahead of the tail. -/
def lexA (md : Region.Mode) (ops : Array Oper) (g n : Nat) : Nat → Nat → Array Bool → Bool
  | 0, _, done => decide (Region.ready md ops done = [n]) && Region.seqB md ops g (n + 1) (done.setIfInBounds n true)
  | f + 1, k, done => (Region.ready md ops done).contains k && Region.free md ops done k && lexA md ops g n f (k + 1) (done.setIfInBounds k true)

/-- No operation of the head looks at operation n, or waits for it. -/
def freeN (md : Region.Mode) (ops : Array Oper) (n : Nat) : Bool :=
  (List.range n).all fun i => !Region.waitsFor md ops i n && (match ops[i]?, ops[n]? with | some o, some m => o.apart ops m | _, _ => false)

def lexAllocB (md : Region.Mode) (ops : Array Oper) (n : Nat) : Bool :=
  Region.noSelect ops && decide (n + 1 < ops.size) && Region.sinkB md ops (n + 1) && Region.chainB md ops (n + 1) && freeN md ops n && lexA md ops (ops.size - (n + 1)) n n 0 (Array.replicate ops.size false)

theorem HeadK.lex {g : Nat} {K : Act → Prop} (hsel : Region.noSelect ops = true) (hs : Region.sinkB md ops (n + 1) = true) (hc : Region.chainB md ops (n + 1) = true) (hn : n + 1 < ops.size) (l : List Oper) :
    ∀ (k : Nat) (done : Array Bool) (a : Act), (∀ j, j < l.length → l[j]? = ops[k + j]?) → k + l.length = n → HeadInv md ops (n + 1) done →
    lexA md ops g n l.length k done = true → wpK P ops W K l a → HeadK P md ops W n (fun d a' => (Region.ready md ops d = [n] ∧ Region.seqB md ops g (n + 1) (d.setIfInBounds n true) = true) ∧ K a') l.length done a := by
  induction l with
  | nil =>
    intro k done a _ hk _ hB h
    simp only [List.length_nil, lexA, Bool.and_eq_true, decide_eq_true_eq] at hB
    exact ⟨hB, h⟩
  | cons o l ih =>
    intro k done a hl hk inv hB h
    have h0 : ops[k]? = some o := by simpa using (hl 0 (by simp)).symm
    simp only [List.length_cons, lexA, Bool.and_eq_true] at hB
    simp only [List.length_cons] at hk
    have hr : k ∈ Region.ready md ops done := by simpa using hB.1.1
    obtain ⟨v, hy, hK⟩ := wpK_yields h
    refine HeadK.first h0 (Region.noSelect_spec hsel) hs hc hn (by omega) (fun d a' hL => hL.1.1) l.length done a inv (Region.free_spec h0 hB.1.2) hr hy ?_
    refine ih (k + 1) _ _ (fun j hj => ?_) (by omega) (inv.set hr (by omega)) hB.2 hK
    have := hl (j + 1) (by simp; omega)
    simpa [Nat.add_assoc, Nat.add_comm 1 j] using this

theorem waits_of {i j : Nat} {o : Oper} (ho : ops[i]? = some o) (h : Region.waitsFor md ops i j = false) : ∀ e ∈ o.after, Region.binds md e = true → e.on ≠ j := by
  intro e he hb heq
  unfold Region.waitsFor at h
  simp only [ho] at h
  have : (o.after.any fun e => Region.binds md e && e.on == j) = true := Array.any_eq_true'.2 ⟨e, he, by simp [hb, heq]⟩
  rw [this] at h
  cases h

/-- The variable is there: the rest of the head, then the tail. -/
theorem HeadK.anyT {g : Nat} {L : Array Bool → Act → Prop} {Q : Exit → Act → World → Prop} {om : Oper} (hom : ops[n]? = some om) (hsel : Region.noSelect ops = true) (hs : Region.sinkB md ops (n + 1) = true) (hc : Region.chainB md ops (n + 1) = true) (hn : n + 1 < ops.size) (hfr : freeN md ops n = true)
    {W1 : World} (hW : Below W.heap.size W W1) (p : Value) (hL : ∀ done a, L done a → ∀ s : KW W1, wpAny P md ops Q g (done.setIfInBounds n true) (a.put om.dst p) s.w) :
    ∀ (f : Nat) (done : Array Bool) (a : Act), HeadInv md ops (n + 1) (done.setIfInBounds n true) → HeadK P md ops W n L f done a → ∀ s : KW W1, wpAny P md ops Q (f + g) (done.setIfInBounds n true) (a.put om.dst p) s.w := by
  intro f
  induction f with
  | zero =>
    intro done a _ h s
    rw [Nat.zero_add]
    exact hL done a h s
  | succ f ih =>
    intro done a inv h s
    have e : f + 1 + g = (f + g) + 1 := by omega
    rw [e]
    obtain ⟨⟨i0, hi0, hr0⟩, hall⟩ := h
    have hr0' : i0 ∈ Region.ready md ops (done.setIfInBounds n true) := ready_mono hr0 (by omega)
    refine ⟨fun h0 => (by rw [h0] at hr0'; cases hr0'), fun i hi => ?_⟩
    have hin : i < n + 1 := Nat.lt_of_not_le fun h => tail_waits hs hc hn inv _ i0 rfl (by omega) (mem_ready.1 hr0').1 i h hi
    obtain ⟨hiun, oi, hoi, hie⟩ := mem_ready.1 hi
    have hne : i ≠ n := by
      intro he
      subst he
      by_cases hlt : i < done.size
      · simp [hlt] at hiun
      · rw [Array.getD_eq_getD_getElem?, Array.getElem?_eq_none (by simpa using hlt)] at hiun
        cases hiun
    have hF := List.all_eq_true.1 hfr i (List.mem_range.2 (by omega))
    simp only [hoi, hom, Bool.and_eq_true, Bool.not_eq_true'] at hF
    have hwait := waits_of hoi hF.1
    have hrd : i ∈ Region.ready md ops done := by
      rw [mem_ready]
      rw [getD_set_ne true (Ne.symm hne)] at hiun
      refine ⟨hiun, oi, hoi, fun e he hb => ?_⟩
      have := hie e he hb
      rwa [getD_set_ne false (Ne.symm (hwait e he hb))] at this
    rcases hall i hrd with h0 | ⟨hlt, o, v, ho, hy, hK⟩
    · exact absurd h0 hne
    · have eo : o = oi := Option.some.inj (ho.symm.trans hoi)
      subst eo
      obtain ⟨h1, h2, h3⟩ := Oper.apart_spec hF.2
      have hso : ∀ cs b, o.op ≠ .select cs b := fun cs b => Region.noSelect_spec hsel i o cs b ho
      have hy' : YK P ops W o v (a.put om.dst p) := hy.same (execOp_put o hso a om.dst p h3) (wanted_put o a om.dst p h3)
      refine hy'.wpOp hW ho s fun t => ?_
      rw [← Act.put_comm a v p h2, Array.setIfInBounds_comm _ _ (Ne.symm hne)]
      refine ih (done.setIfInBounds i true) _ ?_ hK t
      rw [Array.setIfInBounds_comm _ _ hne]
      exact inv.set hi hin

/-- The variable is not there yet. -/
theorem HeadK.anyS {g : Nat} {L : Array Bool → Act → Prop} {Q : Exit → Act → World → Prop} {om : Oper} {Z : Obj} (hom : ops[n]? = some om) (hsel : Region.noSelect ops = true) (hs : Region.sinkB md ops (n + 1) = true) (hc : Region.chainB md ops (n + 1) = true) (hn : n + 1 < ops.size) (hfr : freeN md ops n = true)
    (hg : om.guard = none) (hrun : ∀ a w, (execOp (Act.eval a) om).run P w = .ok (.value (.pointer (some ⟨w.heap.size, 0, none⟩))) (w.alloc Z)) (hend : ∀ done a, L done a → Region.ready md ops done = [n])
    (hL : ∀ done a, L done a → ∀ (w1 : World) (b : Nat), Below W.heap.size W w1 → W.heap.size ≤ b → w1.heap[b]? = some Z → wpAny P md ops Q g (done.setIfInBounds n true) (a.put om.dst (.pointer (some ⟨b, 0, none⟩))) w1) :
    ∀ (f : Nat) (done : Array Bool) (a : Act), HeadInv md ops (n + 1) done → HeadK P md ops W n L f done a → ∀ s : KW W, wpAny P md ops Q (f + 1 + g) done a s.w := by
  have hnow : ∀ (f : Nat) (done : Array Bool) (a : Act) (s : KW W), HeadInv md ops (n + 1) done → n ∈ Region.ready md ops done → HeadK P md ops W n L f done a → wpOp P ops Q n (wpAny P md ops Q (f + g) (done.setIfInBounds n true)) a s.w := by
    intro f done a s inv hr h
    unfold wpOp
    have hw : Region.wanted om (yielded ops a.tmps) = true := by simp [Region.wanted, hg]
    simp only [hom, hw, if_true]
    refine .inl ?_
    unfold Oper.wp
    rw [hrun]
    simp only [Oper.upon]
    have hW1 : Below W.heap.size W (s.w.alloc Z) := s.keep.alloc s.keep.size Z
    refine HeadK.anyT hom hsel hs hc hn hfr hW1 _ ?_ f done a (inv.set hr (by omega)) h ⟨_, Below.refl _ _⟩
    intro d a' hd t
    refine hL d a' hd t.w _ (hW1.trans (t.keep.mono hW1.size)) s.keep.size ?_
    rw [t.keep.block _ (by simp)]
    exact heap_alloc_new s.w Z
  intro f
  induction f with
  | zero =>
    intro done a inv h s
    have e : 0 + 1 + g = (0 + g) + 1 := by omega
    rw [e]
    have hr := hend done a h
    refine ⟨fun h0 => (by rw [hr] at h0; cases h0), fun i hi => ?_⟩
    have hi' : i = n := by rw [hr] at hi; simpa using hi
    rw [hi'] at hi ⊢
    exact hnow 0 done a s inv hi h
  | succ f ih =>
    intro done a inv h s
    have e : f + 1 + 1 + g = (f + 1 + g) + 1 := by omega
    rw [e]
    have h' := h
    obtain ⟨⟨i0, hi0, hr0⟩, hall⟩ := h
    refine ⟨fun h0 => (by rw [h0] at hr0; cases hr0), fun i hi => ?_⟩
    rcases hall i hi with h0 | ⟨hlt, o, v, ho, hy, hK⟩
    · rw [h0] at hi ⊢
      exact hnow (f + 1) done a s inv hi h'
    · refine hy.wpOp (Below.refl _ _) ho s fun t => ?_
      exact ih (done.setIfInBounds i true) _ (inv.set hi (by omega)) hK t

theorem wp_region_keep_alloc {id : Nat} {Q : Exit → Act → World → Prop} {a : Act} {l : List Oper} {om : Oper} {Z : Obj} (n : Nat) (hm : P.follows .mixedOrders = true) (hB : lexAllocB .any l.toArray n = true)
    (hom : l.toArray[n]? = some om) (hg : om.guard = none) (hrun : ∀ a w, (execOp (Act.eval a) om).run P w = .ok (.value (.pointer (some ⟨w.heap.size, 0, none⟩))) (w.alloc Z))
    (h : wpK P l.toArray W (fun a' => ∀ (w1 : World) (b : Nat), Below W.heap.size W w1 → W.heap.size ≤ b → w1.heap[b]? = some Z → ∀ a2, a2 = a'.put om.dst (.pointer (some ⟨b, 0, none⟩)) → wpList P l.toArray Q (l.drop (n + 1)) a2 w1) (l.take n) a) :
    (Code.region id l.toArray true).wp P Q a W := by
  simp only [lexAllocB, Bool.and_eq_true, decide_eq_true_eq] at hB
  obtain ⟨⟨⟨⟨⟨hsel, hn⟩, hs⟩, hc⟩, hfr⟩, hlex⟩ := hB
  have hn' : n + 1 < l.length := by simpa using hn
  have htl : (l.take n).length = n := by simp; omega
  have hdl : (l.drop (n + 1)).length = l.toArray.size - (n + 1) := by simp
  have inv : HeadInv .any l.toArray (n + 1) (Array.replicate l.toArray.size false) :=
    ⟨by simp, fun j oj _ hl => (by rw [getD_replicate_false] at hl; cases hl), fun t _ ht => getD_in (by simpa using ht) (getD_replicate_false _ _)⟩
  have H := HeadK.lex (md := .any) (g := l.toArray.size - (n + 1)) hsel hs hc hn (l.take n) 0 _ a (fun j hj => by rw [htl] at hj; simp [hj]) (by simpa using htl) inv (by rw [htl]; exact hlex) h
  refine wp_region_any hm ?_
  have H2 := HeadK.anyS (Q := Q) (g := l.toArray.size - (n + 1)) hom hsel hs hc hn hfr hg hrun (fun d a' hL => hL.1.1) (fun d a' hL w1 b h1 h2 h3 => by
    have := wpAny_of_seq (md := .any) (Q' := Q) (l.drop (n + 1)) (n + 1) (d.setIfInBounds n true) (a'.put om.dst (.pointer (some ⟨b, 0, none⟩))) w1 (fun j => by simp [List.getElem?_drop]) (by rw [hdl]; exact hL.1.2) (hL.2 w1 b h1 h2 h3 _ rfl)
    rwa [hdl] at this) _ _ _ inv H ⟨W.drew, (Below.refl _ _).drew⟩
  rw [htl, show n + 1 + (l.toArray.size - (n + 1)) = l.toArray.size by omega] at H2
  exact H2

end
end Go.Proofs.YtmhfmhmpoobmlaaGreatDoor
