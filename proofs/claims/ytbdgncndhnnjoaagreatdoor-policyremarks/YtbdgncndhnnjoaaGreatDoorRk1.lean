/- Part 1 of the walks and facts. -/
import Derived.BigQuiet
import Derived.Deep.AppendSrc
import Derived.Deep.LoopGhost
import Derived.Deep.MidRow
import Derived.Laws.AppendOwn
import Derived.Laws.Bits64
import Derived.Laws.BitsAllLaws
import Derived.Laws.BytesString
import Derived.Laws.IdiomStrings
import Derived.Laws.MakeOwn
import Derived.Laws.Rows
import Derived.Laws.StructEq
import Derived.Lib.ItoaNum
import Derived.Lib.LaidTab
import Derived.LoopN
import Derived.OrdersHeld
import Derived.RegionTactic
import Derived.Shelf.Strconv.Itoa3
import Derived.Shelf.Strconv.Lower
import Derived.Shelf.Strconv.ParseUint10At
import Derived.Shelf.Strconv.ToError
import Derived.Shelf.Strconv.ToErrorRange
import Derived.Shelf.Strings.Cut
import Derived.Shelf.Strings.IndexAny
import Derived.Shelf.Strings.IndexAnyAll
import Derived.Shelf.Strings.OnBuilder
import Derived.Shelf.Strings.Prefix
import Derived.Shelf.Strings.SlTrimAscii
import Derived.Shelf.Strings.Split
import Derived.StillTail
import Derived.Test.YtbdgncndhnnjoaaGreatDoorProg
import Derived.Test.YtbdgncndhnnjoaaGreatDoorRows
import Derived.WalkKit
import Derived.WalkLawsBesides
import Derived.WalkSpells
namespace Go.Proofs.YtbdgncndhnnjoaaGreatDoor.Ip
open Go.RowKit
section
variable {P : Program} {ops : Array Oper} {md : Region.Mode} {C : World → Prop}
def HeadQ (P : Program) (md : Region.Mode) (ops : Array Oper) (C : World → Prop) (n : Nat) (L : Array Bool → Act → Prop) : Nat → Array Bool → Act → Prop
 | 0, done, a => L done a
 | f + 1, done, a => Region.ready md ops done ≠ [] ∧ ∀ i ∈ Region.ready md ops done, i < n ∧ qOp P ops C i (HeadQ P md ops C n L f (done.setIfInBounds i true)) a
theorem HeadQ.any {n g : Nat} {L : Array Bool → Act → Prop} {Q : Exit → Act → World → Prop} (hL : ∀ done a w, C w → L done a → wpAny P md ops Q g done a w) :
  ∀ (f : Nat) (done : Array Bool) (a : Act) (w : World), C w → HeadQ P md ops C n L f done a → wpAny P md ops Q (f + g) done a w := by
 intro f
 induction f with
 | zero =>
  intro done a w hw h
  rw [Nat.zero_add]
  exact hL done a w hw h
 | succ f ih =>
  intro done a w hw h
  have e : f + 1 + g = (f + g) + 1 := by omega
  rw [e]
  exact ⟨fun h0 => absurd h0 h.1, fun i hi => wpOp_of_qOp hw (fun a' w' hw' h' => ih _ a' w' hw' h') (h.2 i hi).2⟩
theorem HeadQ.first {n i : Nat} {oi : Oper} {v : Value} {L : Array Bool → Act → Prop} (hi : ops[i]? = some oi) (hsel : ∀ (j : Nat) (o : Oper) cs b, ops[j]? = some o → o.op ≠ .select cs b)
  (hs : Region.sinkB md ops n = true) (hc : Region.chainB md ops n = true) (hn : n < ops.size) (hin : i < n) (hend : ∀ done a, L done a → ∀ j ∈ Region.ready md ops done, n ≤ j) :
  ∀ (f : Nat) (done : Array Bool) (a : Act), HeadInv md ops n done →
   (∀ j oj, ops[j]? = some oj → j ≠ i → done.getD j true = false → (∀ e ∈ oj.after, Region.binds md e = true → e.on ≠ i) → oi.apart ops oj = true) →
   i ∈ Region.ready md ops done → YieldsIn P ops C oi v a → HeadQ P md ops C n L f (done.setIfInBounds i true) (a.put oi.dst v) → HeadQ P md ops C n L (f + 1) done a := by
 intro f
 induction f with
 | zero =>
  intro done a inv _ hr hy H
  refine ⟨fun h => (by rw [h] at hr; cases hr), fun j hj => ?_⟩
  have hjn : j < n := Nat.lt_of_not_le fun h => tail_waits hs hc hn inv _ i rfl hin (mem_ready.1 hr).1 j h hj
  refine ⟨hjn, ?_⟩
  by_cases hji : j = i
  ·subst hji
   exact hy.qOp hi H
  ·have := hend _ _ H j (ready_mono hj hji)
   omega
 | succ f ih =>
  intro done a inv hfree hr hy H
  have hun := (mem_ready.1 hr).1
  refine ⟨fun h => (by rw [h] at hr; cases hr), fun j hj => ?_⟩
  have hjn : j < n := Nat.lt_of_not_le fun h => tail_waits hs hc hn inv _ i rfl hin hun j h hj
  refine ⟨hjn, ?_⟩
  by_cases hji : j = i
  ·subst hji
   exact hy.qOp hi H
  ·obtain ⟨hjun, oj, hoj, hall⟩ := mem_ready.1 hj
   have hno : ∀ e ∈ oj.after, Region.binds md e = true → e.on ≠ i := by
    intro e he hb heq
    have h1 := hall e he hb
    rw [heq, getD_both hun] at h1
    cases h1
   have h2 := qOp_put hoj (hfree j oj hoj hji hjun hno) (fun cs b => hsel i oi cs b hi) (fun cs b => hsel j oj cs b hoj) hy (H.2 j (ready_mono hj hji)).2
   refine qOp_mono (fun a' h3 => ih (done.setIfInBounds j true) a' (inv.set hj hjn) ?_ (ready_mono hr (Ne.symm hji)) h3.1 ?_) h2
   ·intro k ok hk hki hku hkn
    refine hfree k ok hk hki ?_ hkn
    by_cases hjk : j = k
    ·subst hjk
     exact hjun
    ·rw [getD_set_ne true hjk] at hku
     exact hku
   ·rw [Array.setIfInBounds_comm _ _ hji]
    exact h3.2
theorem HeadQ.lex {n g : Nat} {K : Act → Prop} (hsel : Region.noSelect ops = true) (hs : Region.sinkB md ops n = true) (hc : Region.chainB md ops n = true) (hn : n < ops.size) (l : List Oper) :
  ∀ (k : Nat) (done : Array Bool) (a : Act), (∀ j, j < l.length → l[j]? = ops[k + j]?) → k + l.length = n → HeadInv md ops n done →
  Region.lexHead md ops g l.length k done = true → wpQuiet P ops C K l a → HeadQ P md ops C n (fun d a' => Region.seqB md ops g n d = true ∧ K a') l.length done a := by
 induction l with
 | nil =>
  intro k done a _ hk _ hB h
  have e : k = n := by simpa using hk
  subst e
  exact ⟨by simpa [Region.lexHead] using hB, h⟩
 | cons o l ih =>
  intro k done a hl hk inv hB h
  have h0 : ops[k]? = some o := by simpa using (hl 0 (by simp)).symm
  simp only [List.length_cons, Region.lexHead, Bool.and_eq_true] at hB
  simp only [List.length_cons] at hk
  have hr : k ∈ Region.ready md ops done := by simpa using hB.1.1
  have hq : qOp P ops C k (wpQuiet P ops C K l) a := by
   unfold qOp
   simp only [h0]
   exact h
  obtain ⟨v, hy, hK⟩ := yieldsIn_of_qOp h0 hq
  refine HeadQ.first h0 (Region.noSelect_spec hsel) hs hc hn (by omega) (fun d a' hL => seqB_ready hL.1) l.length done a inv (Region.free_spec h0 hB.1.2) hr hy ?_
  refine ih (k + 1) _ _ (fun j hj => ?_) (by omega) (inv.set hr (by omega)) hB.2 hK
  have := hl (j + 1) (by simp; omega)
  simpa [Nat.add_assoc, Nat.add_comm 1 j] using this
theorem wp_region_quiet_tail {id : Nat} {Q : Exit → Act → World → Prop} {a : Act} {w : World} {l : List Oper} (n : Nat) (hm : P.follows .mixedOrders = true) (hB : Region.lexTailB .any l.toArray n = true) (hC : C { w with drawn := w.drawn + 1 })
  (h : wpQuiet P l.toArray C (fun a' => ∀ w', C w' → wpList P l.toArray Q (l.drop n) a' w') (l.take n) a) : (Code.region id l.toArray true).wp P Q a w := by
 simp only [Region.lexTailB, Bool.and_eq_true, decide_eq_true_eq] at hB
 obtain ⟨⟨⟨⟨hsel, hn⟩, hs⟩, hc⟩, hlex⟩ := hB
 have hn' : n < l.length := by simpa using hn
 have htl : (l.take n).length = n := by simp; omega
 have hdl : (l.drop n).length = l.toArray.size - n := by simp
 have inv : HeadInv .any l.toArray n (Array.replicate l.toArray.size false) :=
  ⟨by simp, fun j oj _ hl => (by rw [getD_replicate_false] at hl; cases hl), fun t _ ht => getD_in (by simpa using ht) (getD_replicate_false _ _)⟩
 have H := HeadQ.lex (md := .any) (g := l.toArray.size - n) hsel hs hc hn (l.take n) 0 _ a (fun j hj => by rw [htl] at hj; simp [hj]) (by simpa using htl) inv (by rw [htl]; exact hlex) h
 refine wp_region_any hm ?_
 have H2 := HeadQ.any (Q := Q) (g := l.toArray.size - n) (fun done a' w' hw' hL => by
  have := wpAny_of_seq (md := .any) (Q' := Q) (l.drop n) n done a' w' (fun j => by simp [List.getElem?_drop]) (by rw [hdl]; exact hL.1) (hL.2 w' hw')
  rwa [hdl] at this) _ _ _ _ hC H
 rw [htl, show n + (l.toArray.size - n) = l.toArray.size by omega] at H2
 exact H2
structure KW (W : World) where
 w : World
 keep : Below W.heap.size W w
def KW.next {W : World} (s : KW W) (w' : World) (h : Below s.w.heap.size s.w w') : KW W := ⟨w', s.keep.trans (h.mono s.keep.size)⟩
theorem KW.drew (W : World) : ∃ s : KW W, ({ W with drawn := W.drawn + 1 } : World) = s.w := ⟨⟨W.drew, (Below.refl _ _).drew⟩, rfl⟩
theorem keep_of {W : World} {s : KW W} {f : FuncId} {args : Array Value} {v : Value}
  (h : Calls P f args s.w fun e w' => e = .returned v ∧ Below s.w.heap.size s.w w') : Calls P f args s.w fun e w'' => e = .returned v ∧ ∃ t : KW W, w'' = t.w :=
 h.mono fun _ w' ⟨he, hb⟩ => ⟨he, s.next w' hb, rfl⟩
theorem wp_region_keep_tail {id : Nat} {Q : Exit → Act → World → Prop} {a : Act} {w : World} {l : List Oper} (n : Nat) (hm : P.follows .mixedOrders = true) (hB : Region.lexTailB .any l.toArray n = true)
  (h : wpQuiet P l.toArray (fun w' => ∃ s : KW w, w' = s.w) (fun a' => ∀ s : KW w, wpList P l.toArray Q (l.drop n) a' s.w) (l.take n) a) : (Code.region id l.toArray true).wp P Q a w := by
 refine wp_region_quiet_tail (C := fun w' => ∃ s : KW w, w' = s.w) n hm hB (KW.drew w) ?_
 have e : (fun a' => ∀ w', (∃ s : KW w, w' = s.w) → wpList P l.toArray Q (l.drop n) a' w') = fun a' => ∀ s : KW w, wpList P l.toArray Q (l.drop n) a' s.w := by
  funext a'
  exact propext ⟨fun h s => h _ ⟨s, rfl⟩, fun h w' ⟨s, hs⟩ => hs ▸ h s⟩
 rw [e]
 exact h
end
end Go.Proofs.YtbdgncndhnnjoaaGreatDoor.Ip

namespace Go.Proofs.YtbdgncndhnnjoaaGreatDoor.Ip
open Go.RowKit
section
variable {P : Program} {ops : Array Oper} {md : Region.Mode} {W : World} {n : Nat}
def keepUpon (P : Program) (w : World) (v : Value) : Result Next → Prop
 | .ok (.value u) w' => w' = w ∧ u = v
 | .ok .skip w' => w' = w ∧ v = undef
 | .ok (.enter f args) w' => w' = w ∧ Calls P f args w (fun e w'' => e = .returned v ∧ Below w.heap.size w w'')
 | _ => False
def keepAt (P : Program) (o : Oper) (a : Act) (w : World) (v : Value) : Prop := keepUpon P w v ((execOp a.eval o).run P w)
def keepOp (P : Program) (o : Oper) (a : Act) (W : World) (K : Act → Prop) : Prop := ∃ v, (∀ s : KW W, keepAt P o a s.w v) ∧ K (a.put o.dst v)
def wpK (P : Program) (ops : Array Oper) (W : World) (Q : Act → Prop) : List Oper → Act → Prop
 | [], a => Q a
 | o :: rest, a => if Region.wanted o (yielded ops a.tmps) then keepOp P o a W (wpK P ops W Q rest) else wpK P ops W Q rest (a.put o.dst undef)
end
end Go.Proofs.YtbdgncndhnnjoaaGreatDoor.Ip

namespace Go.Proofs.YtbdgncndhnnjoaaGreatDoor.Ip
open Go.RowKit
def setAll (cs : Array Value) : Nat → List Value → Array Value
 | _, [] => cs
 | o, v :: vs => setAll (cs.setIfInBounds o v) (o + 1) vs
theorem setAll_get (vs : List Value) : ∀ (cs : Array Value) (o i : Nat), o + vs.length ≤ cs.size → (setAll cs o vs)[i]? = if o ≤ i ∧ i < o + vs.length then vs[i - o]? else cs[i]? := by
 induction vs with
 | nil =>
  intro cs o i _
  simp only [setAll, List.length_nil]
  rw [if_neg (by omega)]
 | cons v vs ih =>
  intro cs o i h
  simp only [List.length_cons] at h
  simp only [setAll, List.length_cons]
  rw [ih _ _ _ (by simp; omega)]
  by_cases h1 : o + 1 ≤ i ∧ i < o + 1 + vs.length
  ·rw [if_pos h1, if_pos (by omega), show i - o = (i - (o + 1)) + 1 by omega, List.getElem?_cons_succ]
  ·rw [if_neg h1]
   by_cases h2 : i = o
   ·subst h2
    rw [if_pos (by omega), Nat.sub_self, Array.getElem?_setIfInBounds]
    simp
    omega
   ·rw [if_neg (by omega), Array.getElem?_setIfInBounds_ne (by omega)]
theorem heap_setCells (g : Nat) (T : TypeId) (vs : List Value) : ∀ (W : World) (cs : Array Value) (o : Nat), W.heap[g]? = some (.cells cs T (0, 0)) → (W.setCells g o vs).heap[g]? = some (.cells (setAll cs o vs) T (0, 0)) := by
 induction vs with
 | nil => intro W cs o h; exact h
 | cons v vs ih =>
  intro W cs o h
  exact ih _ _ _ (heap_setCell_same W g o cs T v h)
end Go.Proofs.YtbdgncndhnnjoaaGreatDoor.Ip

namespace Go.Proofs.YtbdgncndhnnjoaaGreatDoor.Ip
open Go.RowKit
section
variable {P : Program} {ops : Array Oper} {md : Region.Mode} {Q : Exit → Act → World → Prop}
theorem op_load_row {o : Oper} {a : Act} {w : World} {K : Act → World → Prop} (ty : TypeId) (x : Operand) (ho : o.op = .load ty x) (g : Nat) (hx : a.eval x = .pointer (some ⟨g, 0, none⟩)) (t : TypeId) (cs : Array Value) (fr : Nat × Nat) (d : TypeDesc)
  (hg : w.heap[g]? = some (.cells cs t fr)) (hu : P.underlying ty = some d) (hd : (match d with | .struct _ | .array _ _ => true | _ => false) = true) (hi : (P.info? ty).map (·.size) = some cs.size)
  (hk : K (a.put o.dst (.agg cs)) w) : o.wp P a w K Q := by
 unfold Oper.wp execOp
 simp only [ho, hx, Instr.loadAt, Instr.sureAddr, Sem.run_bind, Sem.run_pure, Result.andThen_ok, run_loadVar_row w g t ty cs fr d hg hu hd hi]
 exact hk
theorem results_cell_tmp {fn : Func} {p s : Tmp} {ty : TypeId} (h : fn.results = #[.cell p ty, .tmp s]) (tmps : Array Value) (w : World) (g : Nat) (t : TypeId) (cs : Array Value) (fr : Nat × Nat) (d : TypeDesc) (v : Value)
  (hp : tmps.getD p undef = .pointer (some ⟨g, 0, none⟩)) (hs : tmps.getD s undef = v) (hg : w.heap[g]? = some (.cells cs t fr))
  (hu : P.underlying ty = some d) (hd : (match d with | .struct _ | .array _ _ => true | _ => false) = true) (hi : (P.info? ty).map (·.size) = some cs.size) :
  (results fn tmps).run P w = .ok (.tuple #[.agg cs, v]) w := by
 have hp' : tmps[p]?.getD undef = .pointer (some ⟨g, 0, none⟩) := by simpa using hp
 have hs' : tmps[s]?.getD undef = v := by simpa using hs
 simp [results, h, hp', hs', asAddr, run_loadVar_row w g t ty cs fr d hg hu hd hi]
end
end Go.Proofs.YtbdgncndhnnjoaaGreatDoor.Ip

namespace Go.Proofs.YtbdgncndhnnjoaaGreatDoor.Ip
open Go.RowKit
def av (n : Nat) (F : Nat → Value) : Array Value := ((List.range n).map F).toArray
def w8 (f : Nat → Int) : Nat → Value := fun i => .int .u8 (f i)
theorem av_size (n : Nat) (F : Nat → Value) : (av n F).size = n := by simp [av]
theorem av_get (n : Nat) (F : Nat → Value) (i : Nat) (h : i < n) : (av n F)[i]? = some (F i) := by simp [av, h]
theorem av_congr {n : Nat} {F G : Nat → Value} (h : ∀ i, i < n → F i = G i) : av n F = av n G := by
 unfold av
 congr 1
 exact List.map_congr_left fun i hi => h i (List.mem_range.1 hi)
def upd {α : Type} (f : Nat → α) (k : Nat) (v : α) : Nat → α := fun i => if i = k then v else f i
theorem av_set (n : Nat) (F : Nat → Value) (k : Nat) (v : Value) : (av n F).setIfInBounds k v = av n (upd F k v) := by
 apply Array.ext_getElem?
 intro i
 by_cases hi : i < n
 ·rw [Array.getElem?_setIfInBounds, av_get n (upd F k v) i hi]
  by_cases hk : k = i
  ·subst hk
   rw [if_pos rfl, if_pos (by rw [av_size]; exact hi)]
   simp [upd]
  ·have : ¬ i = k := fun h => hk h.symm
   rw [if_neg hk, av_get n F i hi]
   simp [upd, this]
 ·rw [Array.getElem?_eq_none (by simp [av_size]; omega), Array.getElem?_eq_none (by simp [av_size]; omega)]
structure Blk where
 g : Nat
 Z : Obj
structure Ctx where
 w : World
 r : List Nat
structure Laid (w : World) : Prop where
 ml : ∃ m, w.cell? ⟨2, 0, none⟩ = some (.int .i64 m)
 pw : Lib.TabIs Tryz.prog w "internal/strconv.uint64pow10" .u64 Lib.pow10Tab
 sy : ∃ t p, w.cell? ⟨8, 0, none⟩ = some (.iface t p)
 rg : ∃ t p, w.cell? ⟨9, 0, none⟩ = some (.iface t p)
 db : w.cell? ⟨7, 15, none⟩ = some (.int .u8 4)
 lt : 10 ≤ w.heap.size
structure Grw (w w' : World) (r : List Nat) : Prop where
 os : w'.os = w.os
 tape : w'.tape = w.tape
 output : w'.output = w.output
 size : w.heap.size ≤ w'.heap.size
 block : ∀ k, k < w.heap.size → k ∉ r → w'.heap[k]? = w.heap[k]?
theorem glob_pow : Tryz.prog.globalNamed "internal/strconv.uint64pow10" = some 3 := by kernel_rfl
theorem cell_of {w w' : World} {k : Nat} (e : w'.heap[k]? = w.heap[k]?) (i : Nat) : w'.cell? ⟨k, i, none⟩ = w.cell? ⟨k, i, none⟩ := by
 unfold World.cell?
 simp only
 rw [e]
theorem Laid.of {w w' : World} (h : Laid w) (e : ∀ k, k < 10 → w'.heap[k]? = w.heap[k]?) (hs : 10 ≤ w'.heap.size) : Laid w' where
 ml := by rw [cell_of (e 2 (by decide))]; exact h.ml
 pw := by
  have h1 := h.pw
  unfold Lib.TabIs World.var? at h1 ⊢
  rw [glob_pow] at h1 ⊢
  simp only [Option.bind_some] at h1 ⊢
  rw [e 3 (by decide)]
  exact h1
 sy := by rw [cell_of (e 8 (by decide))]; exact h.sy
 rg := by rw [cell_of (e 9 (by decide))]; exact h.rg
 db := by rw [cell_of (e 7 (by decide))]; exact h.db
 lt := hs
theorem grown_refl (w : World) (r : List Nat) : Grw w w r := ⟨rfl, rfl, rfl, Nat.le_refl _, fun _ _ _ => rfl⟩
theorem below_grown {w w' : World} (h : Grw w w' []) : Below w.heap.size w w' := ⟨h.os, h.tape, h.output, h.size, fun k hk => h.block k hk (by simp)⟩
structure Mem (c : Ctx) (L : List Blk) (W : World) : Prop where
 old : Grw c.w W c.r
 at_ : ∀ b ∈ L, W.heap[b.g]? = some b.Z
 ge : ∀ b ∈ L, c.w.heap.size ≤ b.g ∨ b.g ∈ c.r
 nodup : (L.map Blk.g).Nodup
 lay : Laid c.w
 ne : ∀ k ∈ c.r, 10 ≤ k
theorem Mem.start {w : World} (h : Laid w) : Mem ⟨w, []⟩ [] w := ⟨grown_refl _ _, by simp, by simp, by simp, h, by simp⟩
theorem Mem.laid {c : Ctx} {W : World} {L : List Blk} (M : Mem c L W) : Laid W := M.lay.of (fun k hk => M.old.block k (Nat.lt_of_lt_of_le hk M.lay.lt) fun e => absurd (M.ne k e) (by omega)) (Nat.le_trans M.lay.lt M.old.size)
theorem Mem.lt {c : Ctx} {W : World} {L : List Blk} (M : Mem c L W) {b : Blk} (hb : b ∈ L) : b.g < W.heap.size := by
 have h := M.at_ b hb
 exact (Array.getElem?_eq_some_iff.1 h).1
theorem grown_keep {c : Ctx} {W W' : World} (ho : Grw c.w W c.r) (h : Below W.heap.size W W') : Grw c.w W' c.r :=
 ⟨h.os.trans ho.os, h.tape.trans ho.tape, h.output.trans ho.output, Nat.le_trans ho.size h.size, fun k hk hr => (h.block k (Nat.lt_of_lt_of_le hk ho.size)).trans (ho.block k hk hr)⟩
theorem Mem.keep {c : Ctx} {W W' : World} {L : List Blk} (M : Mem c L W) (h : Below W.heap.size W W') : Mem c L W' where
 old := grown_keep M.old h
 at_ := fun b hb => by rw [h.block _ (M.lt hb)]; exact M.at_ b hb
 ge := M.ge
 nodup := M.nodup
 lay := M.lay
 ne := M.ne
theorem Mem.news {c : Ctx} {W W' : World} {L N : List Blk} (M : Mem c L W) (h : Below W.heap.size W W') (hat : ∀ b ∈ N, W'.heap[b.g]? = some b.Z) (hge : ∀ b ∈ N, W.heap.size ≤ b.g) (hnd : (N.map Blk.g).Nodup) : Mem c (L ++ N) W' where
 old := grown_keep M.old h
 at_ := fun b hb => by
  rcases List.mem_append.1 hb with hb | hb
  ·rw [h.block _ (M.lt hb)]; exact M.at_ b hb
  ·exact hat b hb
 ge := fun b hb => by
  rcases List.mem_append.1 hb with hb | hb
  ·exact M.ge b hb
  ·exact .inl (Nat.le_trans M.old.size (hge b hb))
 nodup := by
  rw [List.map_append, List.nodup_append]
  refine ⟨M.nodup, hnd, fun x hx y hy e => ?_⟩
  obtain ⟨b, hb, rfl⟩ := List.mem_map.1 hx
  obtain ⟨d, hd, rfl⟩ := List.mem_map.1 hy
  have h1 := M.lt hb
  have h2 := hge d hd
  omega
 lay := M.lay
 ne := M.ne
theorem Mem.new {c : Ctx} {W W' : World} {L : List Blk} (M : Mem c L W) (g : Nat) (Z : Obj) (h : Below W.heap.size W W') (hat : W'.heap[g]? = some Z) (hge : W.heap.size ≤ g) : Mem c (L ++ [⟨g, Z⟩]) W' :=
 M.news h (by simpa using hat) (by simpa using hge) (by simp)
theorem Mem.drop {c : Ctx} {W : World} {L L' : List Blk} (M : Mem c L W) (h : L'.Sublist L) : Mem c L' W where
 old := M.old
 at_ := fun b hb => M.at_ b (h.subset hb)
 ge := fun b hb => M.ge b (h.subset hb)
 nodup := M.nodup.sublist (h.map _)
 lay := M.lay
 ne := M.ne
theorem Mem.perm {c : Ctx} {W : World} {L L' : List Blk} (M : Mem c L W) (h : L.Perm L') : Mem c L' W where
 old := M.old
 at_ := fun b hb => M.at_ b (h.mem_iff.2 hb)
 ge := fun b hb => M.ge b (h.mem_iff.2 hb)
 nodup := (h.map _).nodup_iff.1 M.nodup
 lay := M.lay
 ne := M.ne
theorem Mem.drew {c : Ctx} {W : World} {L : List Blk} (M : Mem c L W) : Mem c L W.drew := M.keep ((Below.refl _ _).drew)
theorem nodup_ne {α : Type} {l : List α} (h : l.Nodup) {i j : Nat} (hij : i < j) (hj : j < l.length) : l[i]? ≠ l[j]? := by
 have h1 := List.pairwise_iff_getElem.1 h i j (by omega) hj hij
 rw [List.getElem?_eq_getElem (by omega), List.getElem?_eq_getElem hj]
 exact fun e => h1 (Option.some.inj e)
theorem nodup_at {L : List Blk} (h : (L.map Blk.g).Nodup) {i j : Nat} {b c : Blk} (hi : L[i]? = some b) (hj : L[j]? = some c) (hij : i ≠ j) : b.g ≠ c.g := by
 intro e
 have h1 := List.getElem?_eq_some_iff.1 hi
 have h2 := List.getElem?_eq_some_iff.1 hj
 obtain ⟨l1, e1⟩ := h1
 obtain ⟨l2, e2⟩ := h2
 rcases Nat.lt_or_gt_of_ne hij with hlt | hlt
 ·refine nodup_ne h hlt (by simpa using l2) ?_
  simp [hi, hj, e]
 ·refine nodup_ne h hlt (by simpa using l1) ?_
  simp [hi, hj, e]
theorem Mem.put {c : Ctx} {W W' : World} {L : List Blk} (M : Mem c L W) (i : Nat) (b : Blk) (hi : L[i]? = some b) (Z : Obj) (hu : Grw W W' [b.g]) (hz : W'.heap[b.g]? = some Z) : Mem c (L.set i ⟨b.g, Z⟩) W' where
 old := ⟨hu.os.trans M.old.os, hu.tape.trans M.old.tape, hu.output.trans M.old.output, Nat.le_trans M.old.size hu.size, fun k hk hr => by
  have hg := M.ge b (List.mem_of_getElem? hi)
  refine (hu.block k (Nat.lt_of_lt_of_le hk M.old.size) fun e => ?_).trans (M.old.block k hk hr)
  obtain rfl := List.mem_singleton.1 e
  rcases hg with hg | hg
  ·omega
  ·exact hr hg⟩
 at_ := fun d hd => by
  obtain ⟨j, hj⟩ := List.mem_iff_getElem?.1 hd
  rw [List.getElem?_set] at hj
  by_cases hij : i = j
  ·subst hij
   rw [if_pos rfl] at hj
   split at hj
   ·cases hj
    exact hz
   ·cases hj
  ·rw [if_neg hij] at hj
   have hm := List.mem_of_getElem? hj
   rw [hu.block _ (M.lt hm) (fun e => nodup_at M.nodup hj hi (Ne.symm hij) (List.mem_singleton.1 e))]
   exact M.at_ d hm
 ge := fun d hd => by
  obtain ⟨j, hj⟩ := List.mem_iff_getElem?.1 hd
  rw [List.getElem?_set] at hj
  by_cases hij : i = j
  ·subst hij
   rw [if_pos rfl] at hj
   split at hj
   ·cases hj
    exact M.ge b (List.mem_of_getElem? hi)
   ·cases hj
  ·rw [if_neg hij] at hj
   exact M.ge d (List.mem_of_getElem? hj)
 nodup := by
  have e : (L.set i ⟨b.g, Z⟩).map Blk.g = L.map Blk.g := by
   apply List.ext_getElem?
   intro j
   simp only [List.getElem?_map, List.getElem?_set]
   by_cases hij : i = j
   ·subst hij
    rw [if_pos rfl, hi]
    have := (List.getElem?_eq_some_iff.1 hi).1
    simp [this]
   ·rw [if_neg hij]
  rw [e]
  exact M.nodup
 lay := M.lay
 ne := M.ne
theorem Mem.get {c : Ctx} {W : World} {L : List Blk} (M : Mem c L W) (i : Nat) {g : Nat} {Z : Obj} (hi : L[i]? = some ⟨g, Z⟩) : W.heap[g]? = some Z := M.at_ _ (List.mem_of_getElem? hi)
theorem grown_trans {w1 w2 w3 : World} {r : List Nat} (h : Grw w1 w2 r) (k : Grw w2 w3 r) : Grw w1 w3 r := ⟨k.os.trans h.os, k.tape.trans h.tape, k.output.trans h.output, Nat.le_trans h.size k.size, fun j hj hr => (k.block j (Nat.lt_of_lt_of_le hj h.size) hr).trans (h.block j hj hr)⟩
theorem grown_setCell (W : World) (g o : Nat) (v : Value) : Grw W (W.setCell ⟨g, o, none⟩ v) [g] :=
 ⟨rfl, rfl, rfl, by simp, fun k _ hr => Below.heap_setCell _ _ _ _ (fun e => hr (by rw [e]; exact List.mem_singleton.2 rfl))⟩
theorem grown_setCells (g : Nat) (vs : List Value) : ∀ (W : World) (o : Nat), Grw W (W.setCells g o vs) [g] := by
 induction vs with
 | nil => intro W o; exact grown_refl _ _
 | cons v vs ih => intro W o; exact grown_trans (grown_setCell W g o v) (ih _ _)
theorem cell_av {W : World} {g n T : Nat} {F : Nat → Value} {fr : Nat × Nat} (h : W.heap[g]? = some (.cells (av n F) T fr)) {i : Nat} (hi : i < n) : W.cell? ⟨g, i, none⟩ = some (F i) := by
 unfold World.cell?
 rw [h]
 simpa using av_get n F i hi
theorem free_av {W : World} {g n T : Nat} {F : Nat → Value} (h : W.heap[g]? = some (.cells (av n F) T (0, 0))) (i : Nat) : W.frozen? ⟨g, i, none⟩ = false := by
 unfold World.frozen?
 rw [h]
 simp
theorem av_toList_get (n : Nat) (F : Nat → Value) (j : Nat) (v : Value) (h : (av n F).toList[j]? = some v) : j < n ∧ v = F j := by
 have hj : j < n := by
  have := (List.getElem?_eq_some_iff.1 h).1
  simpa [av_size] using this
 refine ⟨hj, ?_⟩
 have h2 := av_get n F j hj
 rw [Array.getElem?_toList] at h
 rw [h2] at h
 exact (Option.some.inj h).symm
theorem range_av {W : World} {g n T : Nat} {F : Nat → Value} {fr : Nat × Nat} (h : W.heap[g]? = some (.cells (av n F) T fr)) (o k : Nat) (F' : Nat → Value) (hok : o + k ≤ n) (he : ∀ i, i < k → F (o + i) = F' i) : W.rangeAt g o (av k F').toList := by
 intro j v hv
 obtain ⟨hj, rfl⟩ := av_toList_get k F' j v hv
 rw [cell_av h (by omega), he j hj]
theorem there_av {W : World} {g n T : Nat} {F : Nat → Value} (h : W.heap[g]? = some (.cells (av n F) T (0, 0))) (o k : Nat) (hk : o + k ≤ n) : W.there g o k := fun j hj => by
 rw [cell_av h (by omega)]
 exact ⟨rfl, free_av h _⟩
theorem setAll_av (n : Nat) (F F' Fn : Nat → Value) (off k : Nat) (hk : off + k ≤ n) (hfn : ∀ j, j < n → (if off ≤ j ∧ j < off + k then F' (j - off) else F j) = Fn j) : setAll (av n F) off (av k F').toList = av n Fn := by
 have hlen : (av k F').toList.length = k := by simp [av_size]
 apply Array.ext_getElem?
 intro i
 rw [setAll_get _ _ _ _ (by rw [hlen, av_size]; exact hk), hlen]
 by_cases hi : i < n
 ·rw [av_get n Fn i hi, ← hfn i hi]
  by_cases h : off ≤ i ∧ i < off + k
  ·rw [if_pos h, if_pos h, Array.getElem?_toList, av_get k F' _ (by omega)]
  ·rw [if_neg h, if_neg h, av_get n F i hi]
 ·rw [if_neg (by omega), Array.getElem?_eq_none (by rw [av_size]; omega), Array.getElem?_eq_none (by rw [av_size]; omega)]
theorem av_one (n : Nat) (F : Nat → Value) (h : ∀ i, i < n → (F i).oneCell' = true) : (av n F).all (·.oneCell') = true := by
 rw [Array.all_eq_true]
 intro i hi
 have hi' : i < n := by rw [av_size] at hi; exact hi
 have h2 := av_get n F i hi'
 rw [Array.getElem?_eq_getElem hi] at h2
 rw [Option.some.inj h2]
 exact h i hi'
structure PL (P : Program) (ops : Array Oper) (Q : Exit → Act → World → Prop) (l : List Oper) (a : Act) (w : World) : Prop where
 out : wpList P ops Q l a w
structure KL (P : Program) (ops : Array Oper) (W : World) (Q : Act → Prop) (l : List Oper) (a : Act) : Prop where
 out : wpK P ops W Q l a
section
variable {P : Program} {ops : Array Oper} {rest : List Oper} {o : Oper} {a : Act} {w : World} {c : Ctx} {L : List Blk} {Q : Exit → Act → World → Prop} {K : Act → World → Prop}
theorem rg_lit {id : Nat} {l : List Oper} (h : PL P l.toArray Q l a w) : (Code.region id l.toArray false).wp P Q a w := wp_region_lit h.out
theorem pl_nil (h : Q .normal a w) : PL P ops Q [] a w := ⟨h⟩
theorem want_no (hg : o.guard = none) : Region.wanted o (yielded ops a.tmps) = true := by
 unfold Region.wanted
 rw [hg]
def boolOf : Value → Option Bool
 | .bool b => some b
 | _ => none
theorem yielded_at (j : Nat) (t : Tmp) (hd : (ops.toList[j]?).bind (·.dst) = some t) (v : Value) (hv : a.eval (.tmp t) = v) : yielded ops a.tmps j = boolOf v := by
 have hd' : (ops[j]?).bind (·.dst) = some t := by rw [← Array.getElem?_toList]; exact hd
 have e : a.tmps[t]?.getD undef = v := by rw [← hv]; simp [Act.eval]
 unfold yielded
 rw [hd']
 simp only [Option.bind_some]
 cases h : a.tmps[t]? with
 | none =>
  rw [h] at e
  rw [← e]
  rfl
 | some u =>
  rw [h] at e
  rw [← e]
  cases u <;> rfl
theorem want_on (j : Nat) (b : Bool) (hg : o.guard = some (j, b)) (t : Tmp) (hd : (ops.toList[j]?).bind (·.dst) = some t) (hv : a.eval (.tmp t) = .bool b) : Region.wanted o (yielded ops a.tmps) = true := by
 unfold Region.wanted
 rw [hg]
 simp only
 rw [yielded_at j t hd _ hv]
 simp [boolOf]
theorem want_off (j : Nat) (b : Bool) (hg : o.guard = some (j, b)) (t : Tmp) (hd : (ops.toList[j]?).bind (·.dst) = some t) (hv : a.eval (.tmp t) = .bool (!b)) : Region.wanted o (yielded ops a.tmps) = false := by
 unfold Region.wanted
 rw [hg]
 simp only
 rw [yielded_at j t hd _ hv]
 cases b <;> rfl
theorem want_und (j : Nat) (b : Bool) (hg : o.guard = some (j, b)) (t : Tmp) (hd : (ops.toList[j]?).bind (·.dst) = some t) (hv : a.eval (.tmp t) = undef) : Region.wanted o (yielded ops a.tmps) = false := by
 unfold Region.wanted
 rw [hg]
 simp only
 rw [yielded_at j t hd _ hv]
 rfl
theorem au_then (h : K a w) : Exit.then K Q .normal a w := h
theorem au_then_ret (h : Q .ret a w) : Exit.then K Q .ret a w := h
theorem au_then_exit {i : Nat} (h : Q (.exit i) a w) : Exit.then K Q (.exit i) a w := h
theorem au_block {id : Nat} (h : Q .normal a w) : Exit.inBlock id Q .normal a w := h
theorem au_block_ret {id : Nat} (h : Q .ret a w) : Exit.inBlock id Q .ret a w := h
theorem au_block_exit {id : Nat} (h : Q .normal a w) : Exit.inBlock id Q (.exit id) a w := by
 show (if id = id then Q .normal a w else Q (.exit id) a w)
 rw [if_pos rfl]
 exact h
theorem pl_to (hw : Region.wanted o (yielded ops a.tmps) = true) (d : Option Tmp) (hd : o.dst = d) (v : Value) (w' : World) (hrun : (execOp a.eval o).run P w = .ok (.value v) w')
  (h : PL P ops Q rest (a.put d v) w') : PL P ops Q (o :: rest) a w :=
 ⟨Go.BigFrame.wpList_want hw fun _ hK => by
  unfold Oper.wp
  rw [hrun]
  subst hd
  exact hK _ _ h.out⟩
theorem pl_val (hw : Region.wanted o (yielded ops a.tmps) = true) (d : Option Tmp) (hd : o.dst = d) (v : Value) (hrun : ∀ w, (execOp a.eval o).run P w = .ok (.value v) w)
  (h : PL P ops Q rest (a.put d v) w) : PL P ops Q (o :: rest) a w := pl_to hw d hd v w (hrun w) h
theorem pl_skip (hw : Region.wanted o (yielded ops a.tmps) = false) (d : Option Tmp) (hd : o.dst = d) (h : PL P ops Q rest (a.put d undef) w) : PL P ops Q (o :: rest) a w := by
 subst hd
 exact ⟨wpList_skip hw h.out⟩
theorem new_below (W : World) (o : Obj) : Below W.heap.size W (W.alloc o) := (Below.refl _ _).alloc (Nat.le_refl _) _
theorem pl_mk (M : Mem c L w) (hw : Region.wanted o (yielded ops a.tmps) = true) (d : Option Tmp) (hd : o.dst = d) (v : Nat → Value) (Z : Obj) (hrun : ∀ w, (execOp a.eval o).run P w = .ok (.value (v w.heap.size)) (w.alloc Z))
  (h : ∀ g w', Mem c (L ++ [⟨g, Z⟩]) w' → PL P ops Q rest (a.put d (v g)) w') : PL P ops Q (o :: rest) a w :=
 pl_to hw d hd _ _ (hrun w) (h w.heap.size (w.alloc Z) (M.new _ Z (new_below w Z) (heap_alloc_new w Z) (Nat.le_refl _)))
theorem pl_new (M : Mem c L w) (hw : Region.wanted o (yielded ops a.tmps) = true) (d : Option Tmp) (hd : o.dst = d) (Z : Obj) (hrun : ∀ w, (execOp a.eval o).run P w = .ok (.value (.pointer (some ⟨w.heap.size, 0, none⟩))) (w.alloc Z))
  (h : ∀ g w', Mem c (L ++ [⟨g, Z⟩]) w' → PL P ops Q rest (a.put d (.pointer (some ⟨g, 0, none⟩))) w') : PL P ops Q (o :: rest) a w :=
 pl_mk M hw d hd (fun g => .pointer (some ⟨g, 0, none⟩)) Z hrun h
theorem pl_callq (hw : Region.wanted o (yielded ops a.tmps) = true) (d : Option Tmp) (hd : o.dst = d) (f : FuncId) (args : Array Value) (hrun : ∀ w, (execOp a.eval o).run P w = .ok (.enter f args) w)
  (hc : Calls P f args w fun e w' => ∃ v, e = .returned v ∧ PL P ops Q rest (a.put d v) w') : PL P ops Q (o :: rest) a w :=
 ⟨Go.BigFrame.wpList_want hw fun _ hK => by
  unfold Oper.wp
  rw [hrun]
  subst hd
  exact hc.mono fun e w' ⟨v, he, hb⟩ => by subst he; exact hK _ _ hb.out⟩
theorem pl_call (M : Mem c L w) (hw : Region.wanted o (yielded ops a.tmps) = true) (d : Option Tmp) (hd : o.dst = d) (f : FuncId) (args : Array Value) (v : Value) (hrun : ∀ w, (execOp a.eval o).run P w = .ok (.enter f args) w)
  (hc : ∀ w, Mem c L w → Calls P f args w fun e w' => e = .returned v ∧ Below w.heap.size w w') (h : ∀ w', Mem c L w' → PL P ops Q rest (a.put d v) w') : PL P ops Q (o :: rest) a w :=
 pl_callq hw d hd f args hrun ((hc w M).mono fun _ w' ⟨he, hb⟩ => ⟨v, he, h w' (M.keep hb)⟩)
theorem pl_calln (M : Mem c L w) (hw : Region.wanted o (yielded ops a.tmps) = true) (d : Option Tmp) (hd : o.dst = d) (f : FuncId) (args : Array Value) (v : Nat → Value) (Z : Obj) (hrun : ∀ w, (execOp a.eval o).run P w = .ok (.enter f args) w)
  (hc : ∀ w, Mem c L w → Calls P f args w fun e w' => ∃ g, e = .returned (v g) ∧ w.heap.size ≤ g ∧ w'.heap[g]? = some Z ∧ Below w.heap.size w w') (h : ∀ g w', Mem c (L ++ [⟨g, Z⟩]) w' → PL P ops Q rest (a.put d (v g)) w') : PL P ops Q (o :: rest) a w :=
 pl_callq hw d hd f args hrun ((hc w M).mono fun _ w' ⟨g, he, h1, h2, hb⟩ => ⟨v g, he, h g w' (M.new g Z hb h2 h1)⟩)
theorem pl_load (M : Mem c L w) (hw : Region.wanted o (yielded ops a.tmps) = true) (d : Option Tmp) (hd : o.dst = d) (ty : TypeId) (x : Operand) (ho : o.op = .load ty x) (i g off : Nat) (hx : a.eval x = .pointer (some ⟨g, off, none⟩)) (n T : Nat) (F : Nat → Value) (hi : L[i]? = some ⟨g, .cells (av n F) T⟩)
  (k : Nat) (F' : Nat → Value) (hp : ∀ j, j < k → F (off + j) = F' j) (hk : off + k ≤ n) (t : TypeDesc) (hu : P.underlying ty = some t) (ht : t.isRow = true) (hz : (P.info? ty).map (·.size) = some k)
  (h : PL P ops Q rest (a.put d (.agg (av k F'))) w) : PL P ops Q (o :: rest) a w := by
 refine pl_to hw d hd (.agg (av k F')) w ?_ h
 unfold execOp
 have hl := run_loadAt_mid (P := P) w g off ty (av k F').toList t (range_av (M.get i hi) off k F' hk hp) hu ht (by rw [hz]; simp [av_size])
 simp only [ho, hx, Sem.run_bind, hl, Result.andThen_ok, Sem.run_pure, Array.toArray_toList]
theorem run_cell {w : World} {g k : Nat} {v : Value} (hc : w.cell? ⟨g, k, none⟩ = some v) (ty : TypeId) (hag : ∀ w, (isAgg ty).run P w = .ok false w) : (Instr.loadAt ty (.pointer (some ⟨g, k, none⟩))).run P w = .ok v w := by
 simp [Instr.loadAt, Instr.sureAddr, loadVar, hag, hc]
theorem pl_cell (M : Mem c L w) (hw : Region.wanted o (yielded ops a.tmps) = true) (d : Option Tmp) (hd : o.dst = d) (ty : TypeId) (x : Operand) (ho : o.op = .load ty x) (g off : Nat) (hx : a.eval x = .pointer (some ⟨g, off, none⟩)) (v : Value) (hag : ∀ w, (isAgg ty).run P w = .ok false w) (hc : ∀ w, Mem c L w → w.cell? ⟨g, off, none⟩ = some v)
  (h : PL P ops Q rest (a.put d v) w) : PL P ops Q (o :: rest) a w := by
 refine pl_to hw d hd v w ?_ h
 have hr := run_cell (P := P) (hc w M) ty hag
 unfold execOp
 simp only [ho, hx, Sem.run_bind, hr, Result.andThen_ok, Sem.run_pure]
theorem Mem.cell {W : World} (M : Mem c L W) (i : Nat) {g n T : Nat} {F : Nat → Value} (hi : L[i]? = some ⟨g, .cells (av n F) T⟩) {k : Nat} (hk : k < n) {v : Value} (hv : F k = v) : W.cell? ⟨g, k, none⟩ = some v := by
 rw [cell_av (M.get i hi) hk, hv]
theorem pl_put (M : Mem c L w) (hw : Region.wanted o (yielded ops a.tmps) = true) (hd : o.dst = none) (ty : TypeId) (x y : Operand) (ho : o.op = .store ty x y) (i g off : Nat) (hx : a.eval x = .pointer (some ⟨g, off, none⟩)) (n T : Nat) (F : Nat → Value) (hi : L[i]? = some ⟨g, .cells (av n F) T⟩) (k : Nat) (F' Fn : Nat → Value)
  (hy : a.eval y = .agg (av k F')) (hz : (P.info? ty).map (·.size) = some k) (hk : off + k ≤ n) (h1 : ∀ j, j < k → (F' j).oneCell' = true) (hfn : ∀ j, j < n → (if off ≤ j ∧ j < off + k then F' (j - off) else F j) = Fn j)
  (h : ∀ w', Mem c (L.set i ⟨g, .cells (av n Fn) T⟩) w' → PL P ops Q rest a w') : PL P ops Q (o :: rest) a w := by
 have R := M.get i hi
 refine ⟨Go.BigFrame.wpList_want hw fun K hK => wp_store_mid ty x y ho g off (av k F') hx hy (by rw [av_size]; exact there_av R off k hk) (by rw [hz, av_size]) (av_one _ _ h1) (hK _ _ ?_)⟩
 rw [hd]
 refine PL.out ?_
 exact h _ (M.put i ⟨g, _⟩ hi _ (grown_setCells g _ _ _) (by rw [heap_setCells g T _ w _ off R, setAll_av n F F' Fn off k hk hfn]))
theorem pl_put1 (M : Mem c L w) (hw : Region.wanted o (yielded ops a.tmps) = true) (hd : o.dst = none) (ty : TypeId) (x y : Operand) (ho : o.op = .store ty x y) (i g off : Nat) (hx : a.eval x = .pointer (some ⟨g, off, none⟩)) (n T : Nat) (F : Nat → Value) (hi : L[i]? = some ⟨g, .cells (av n F) T⟩) (v : Value) (Fn : Nat → Value)
  (hy : a.eval y = v) (hz : (P.info? ty).map (·.size) = some 1) (hk : off < n) (h1 : v.oneCell' = true) (hc : v.cells = #[v]) (hfn : ∀ j, j < n → (if j = off then v else F j) = Fn j)
  (h : ∀ w', Mem c (L.set i ⟨g, .cells (av n Fn) T⟩) w' → PL P ops Q rest a w') : PL P ops Q (o :: rest) a w := by
 have R := M.get i hi
 have h3 := h (w.setCell ⟨g, off, none⟩ v) (M.put i ⟨g, _⟩ hi _ (grown_setCell w g off v) (by
  rw [heap_setCell_same w g off _ T _ R, av_set]
  congr 2
  exact av_congr fun j hj => by rw [← hfn j hj]; rfl))
 have hrun : (Instr.storeAt ty (.pointer (some ⟨g, off, none⟩)) v).run P w = .ok () (w.setCell ⟨g, off, none⟩ v) := by
  cases hq : P.info? ty with
  | none => simp [hq] at hz
  | some t =>
   have ht : t.size = 1 := by simpa [hq] using hz
   have hcc := run_storeCells_cells (P := P) g off [v] 0 w (by intro j hj; simp at hj; subst hj; simp [cell_av R hk]) (by intro j hj; simp at hj; subst hj; simpa using free_av R off) (by simpa using h1)
   simp only [Nat.add_zero, World.setCells] at hcc
   simp [Instr.storeAt, Instr.sureAddr, storeVar, sizeOf, typeInfo, hq, ht, hc, hcc]
 refine ⟨Go.BigFrame.wpList_want hw fun K hK => ?_⟩
 unfold Oper.wp execOp
 simp only [ho, hx, hy, Sem.run_bind, hrun, Result.andThen_ok, Sem.run_pure]
 show K (a.put o.dst undef) _
 rw [hd]
 exact hK _ _ h3.out
end
section
variable {P : Program} {ops : Array Oper} {rest : List Oper} {o : Oper} {a : Act} {W : World} {c : Ctx} {L : List Blk} {Q : Act → Prop}
theorem k_any (hw : Region.wanted o (yielded ops a.tmps) = true) (d : Option Tmp) (hd : o.dst = d) (v : Value) (hrun : ∀ s : KW W, (execOp a.eval o).run P s.w = .ok (.value v) s.w) (h : KL P ops W Q rest (a.put d v)) : KL P ops W Q (o :: rest) a := by
 subst hd
 refine ⟨?_⟩
 unfold wpK
 rw [if_pos hw]
 refine ⟨v, fun s => ?_, h.out⟩
 unfold keepAt
 rw [hrun]
 exact ⟨rfl, rfl⟩
theorem k_val (hw : Region.wanted o (yielded ops a.tmps) = true) (d : Option Tmp) (hd : o.dst = d) (v : Value) (hrun : ∀ w, (execOp a.eval o).run P w = .ok (.value v) w) (h : KL P ops W Q rest (a.put d v)) : KL P ops W Q (o :: rest) a := k_any hw d hd v (fun s => hrun s.w) h
theorem k_skip (hw : Region.wanted o (yielded ops a.tmps) = false) (d : Option Tmp) (hd : o.dst = d) (h : KL P ops W Q rest (a.put d undef)) : KL P ops W Q (o :: rest) a := by
 subst hd
 refine ⟨?_⟩
 unfold wpK
 rw [if_neg (by rw [hw]; exact Bool.false_ne_true)]
 exact h.out
theorem k_call (M : Mem c L W) (hw : Region.wanted o (yielded ops a.tmps) = true) (d : Option Tmp) (hd : o.dst = d) (f : FuncId) (args : Array Value) (v : Value) (hrun : ∀ w, (execOp a.eval o).run P w = .ok (.enter f args) w)
  (hc : ∀ w, Mem c L w → Calls P f args w fun e w' => e = .returned v ∧ Below w.heap.size w w') (h : KL P ops W Q rest (a.put d v)) : KL P ops W Q (o :: rest) a := by
 subst hd
 refine ⟨?_⟩
 unfold wpK
 rw [if_pos hw]
 refine ⟨v, fun s => ?_, h.out⟩
 unfold keepAt
 rw [hrun]
 exact ⟨rfl, hc s.w (M.keep s.keep)⟩
theorem k_load (M : Mem c L W) (hw : Region.wanted o (yielded ops a.tmps) = true) (d : Option Tmp) (hd : o.dst = d) (ty : TypeId) (x : Operand) (ho : o.op = .load ty x) (i g off : Nat) (hx : a.eval x = .pointer (some ⟨g, off, none⟩)) (n T : Nat) (F : Nat → Value) (hi : L[i]? = some ⟨g, .cells (av n F) T⟩)
  (k : Nat) (F' : Nat → Value) (hp : ∀ j, j < k → F (off + j) = F' j) (hk : off + k ≤ n) (t : TypeDesc) (hu : P.underlying ty = some t) (ht : t.isRow = true) (hz : (P.info? ty).map (·.size) = some k)
  (h : KL P ops W Q rest (a.put d (.agg (av k F')))) : KL P ops W Q (o :: rest) a := by
 refine k_any hw d hd (.agg (av k F')) (fun s => ?_) h
 unfold execOp
 have hl := run_loadAt_mid (P := P) s.w g off ty (av k F').toList t (range_av ((M.keep s.keep).get i hi) off k F' hk hp) hu ht (by rw [hz]; simp [av_size])
 simp only [ho, hx, Sem.run_bind, hl, Result.andThen_ok, Sem.run_pure, Array.toArray_toList]
theorem k_cell (M : Mem c L W) (hw : Region.wanted o (yielded ops a.tmps) = true) (d : Option Tmp) (hd : o.dst = d) (ty : TypeId) (x : Operand) (ho : o.op = .load ty x) (g off : Nat) (hx : a.eval x = .pointer (some ⟨g, off, none⟩)) (v : Value) (hag : ∀ w, (isAgg ty).run P w = .ok false w) (hc : ∀ w, Mem c L w → w.cell? ⟨g, off, none⟩ = some v)
  (h : KL P ops W Q rest (a.put d v)) : KL P ops W Q (o :: rest) a := by
 refine k_any hw d hd v (fun s => ?_) h
 have hr := run_cell (P := P) (hc s.w (M.keep s.keep)) ty hag
 unfold execOp
 simp only [ho, hx, Sem.run_bind, hr, Result.andThen_ok, Sem.run_pure]
theorem kl_nil (h : Q a) : KL P ops W Q [] a := ⟨h⟩
theorem quiet_of_K : ∀ (l : List Oper) (a : Act), wpK P ops W Q l a → wpQuiet P ops (fun w' => ∃ s : KW W, w' = s.w) Q l a
 | [], _, h => h
 | o :: l, a, h => by
  unfold wpK at h
  unfold wpQuiet
  split
  ·rename_i hw
   rw [if_pos hw] at h
   obtain ⟨v, h1, h2⟩ := h
   refine ⟨v, fun w' => ?_, quiet_of_K l _ h2⟩
   rintro ⟨s, rfl⟩
   have h3 := h1 s
   unfold keepAt at h3
   unfold Oper.quietAt
   generalize (execOp a.eval o).run P s.w = r at *
   cases r with
   | ok x w' =>
    cases x <;> simp only [keepUpon] at h3 <;> simp only [Oper.quietUpon]
    case value => exact h3
    case skip => exact h3
    case enter f args => exact ⟨h3.1, keep_of h3.2⟩
   | halt x w' => simp only [keepUpon] at h3
  ·rename_i hw
   rw [if_neg hw] at h
   exact quiet_of_K l _ h
end
section
variable {P : Program} {W : World} {c : Ctx} {L : List Blk} {Q : Exit → Act → World → Prop} {a : Act}
theorem rg_tail {id : Nat} {l : List Oper} (M : Mem c L W) (n : Nat) (hm : P.follows .mixedOrders = true) (hB : Region.lexTailB .any l.toArray n = true)
  (h0 : KL P l.toArray W (fun a' => ∀ w', Mem c L w' → PL P l.toArray Q (l.drop n) a' w') (l.take n) a) : (Code.region id l.toArray true).wp P Q a W := by
 have h := h0.out
 refine wp_region_keep_tail n hm hB (quiet_of_K _ _ ?_)
 have key : ∀ (l1 : List Oper) (a1 : Act), wpK P l.toArray W (fun a' => ∀ w', Mem c L w' → PL P l.toArray Q (l.drop n) a' w') l1 a1 → wpK P l.toArray W (fun a' => ∀ s : KW W, wpList P l.toArray Q (l.drop n) a' s.w) l1 a1 := by
  intro l1
  induction l1 with
  | nil => intro a1 h1 s; exact (h1 s.w (M.keep s.keep)).out
  | cons o l1 ih =>
   intro a1 h1
   unfold wpK at h1
   unfold wpK
   split
   ·rename_i hw
    rw [if_pos hw] at h1
    obtain ⟨v, h2, h3⟩ := h1
    exact ⟨v, h2, ih _ h3⟩
   ·rename_i hw
    rw [if_neg hw] at h1
    exact ih _ h1
 exact key _ _ h
end
end Go.Proofs.YtbdgncndhnnjoaaGreatDoor.Ip

namespace Go.Proofs.YtbdgncndhnnjoaaGreatDoor.Ip
open Go.RowKit
def un (x y : Int) : Int := IntKind.wrap .u64 (BitVec.ofInt 64 x &&& BitVec.ofInt 64 y).toNat
def uo (x y : Int) : Int := IntKind.wrap .u64 (BitVec.ofInt 64 x ||| BitVec.ofInt 64 y).toNat
def sl (x : Int) (n : Nat) : Int := IntKind.wrap .u64 (x * 2 ^ n)
def sr (x : Int) (n : Nat) : Int := x.fdiv (2 ^ n)
def cv (k : IntKind) (x : Int) : Int := IntKind.wrap k x
theorem put_w8 (f : Nat → Int) (k : Nat) (v : Int) (j : Nat) : (if j = k then .int .u8 v else w8 f j) = w8 (upd f k v) j := by
 unfold w8 upd
 split <;> rfl
section
variable {P : Program} {ops : Array Oper} {rest : List Oper} {o : Oper} {a : Act} {w : World} {c : Ctx} {L : List Blk} {Q : Exit → Act → World → Prop}
theorem au_loop {c : Code} (I : Nat → Act → World → Prop) (N : Nat) (h0 : I 0 a w) (round : ∀ j a w, j < N → I j a w → c.wp P (Exit.then (I (j + 1)) Q) a w) (last : ∀ a w, I N a w → c.wp P (Exit.then (fun _ _ => False) Q) a w) : (Code.loop c).wp P Q a w := by
 refine wp_loop_ghost (fun n a w => n ≤ N ∧ I (N - n) a w) N ⟨Nat.le_refl _, by rw [Nat.sub_self]; exact h0⟩ fun n a w ⟨hn, hI⟩ => ?_
 cases n with
 | zero =>
  rw [Nat.sub_zero] at hI
  refine wp_mono (last a w hI) fun e a' w' hq => ?_
  cases e <;> first | exact hq | exact hq.elim
 | succ n =>
  refine wp_mono (round (N - (n + 1)) a w (by omega) hI) fun e a' w' hq => ?_
  rw [show N - (n + 1) + 1 = N - n by omega] at hq
  cases e <;> first | exact hq | exact ⟨n, by omega, by omega, hq⟩
theorem add_at (g o i : Nat) : (⟨g, o, none⟩ : Addr).add i = ⟨g, o + i, none⟩ := by unfold Addr.add; split <;> simp_all
theorem run_ix1 (t : TypeId) (len : Nat) (elem : TypeId) (hu : P.underlying t = some (.array len elem)) (hs : (P.info? elem).map (·.size) = some 1) (x ix : Operand) (ho : o.op = .indexAddr t x ix) (g : Nat) (hx : a.eval x = .pointer (some ⟨g, 0, none⟩)) (k : IntKind) (i : Nat) (hi : a.eval ix = .int k (i : Int)) (hlt : i < len) (w : World) :
  (execOp a.eval o).run P w = .ok (.value (.pointer (some ⟨g, i, none⟩))) w := by
 cases hq : P.info? elem with
 | none => simp [hq] at hs
 | some u =>
  have hsz : u.size = 1 := by simpa [hq] using hs
  unfold execOp
  simp [ho, hx, hi, Instr.indexAt, Instr.sureAddr, asIntOf, run_underlying hu, sizeOf, typeInfo, hq, hsz, add_at, hlt]
theorem run_ixA (t : TypeId) (len : Nat) (elem : TypeId) (hu : P.underlying t = some (.array len elem)) (hs : (P.info? elem).map (·.size) = some 1) (hag : ∀ w, (isAgg elem).run P w = .ok false w) (x ix : Operand) (ho : o.op = .index t x ix) (F : Nat → Value) (hx : a.eval x = .agg (av len F)) (k : IntKind) (i : Nat) (hi : a.eval ix = .int k (i : Int)) (hlt : i < len) {v : Value} (hv : F i = v) (w : World) :
  (execOp a.eval o).run P w = .ok (.value v) w := by
 cases hq : P.info? elem with
 | none => simp [hq] at hs
 | some u =>
  have hsz : u.size = 1 := by simpa [hq] using hs
  have hg := av_get len F i hlt
  unfold execOp
  simp [ho, hx, hi, Instr.index, asIntOf, run_underlying hu, sizeOf, typeInfo, hq, hsz, hlt, part, hag, hg, hv]
theorem results_tmp1 {fn : Func} {p : Tmp} (h : fn.results = #[.tmp p]) (tmps : Array Value) (w : World) (v : Value) (hp : tmps.getD p undef = v) : (results fn tmps).run P w = .ok v w := by
 have hp' : tmps[p]?.getD undef = v := by simpa using hp
 simp [results, h, hp']
def bt (s : ByteArray) (i : Nat) : Int := ((s.data[i]?.getD 0).toNat : Int)
theorem bt_nn (s : ByteArray) (i : Nat) : 0 ≤ bt s i ∧ bt s i < 256 := by
 unfold bt
 have := (s.data[i]?.getD 0).toNat_lt
 omega
end
theorem results_tmp2 {P : Program} {fn : Func} {p q : Tmp} (h : fn.results = #[.tmp p, .tmp q]) (tmps : Array Value) (w : World) (v u : Value) (hp : tmps.getD p undef = v) (hq : tmps.getD q undef = u) : (results fn tmps).run P w = .ok (.tuple #[v, u]) w := by
 have hp' : tmps[p]?.getD undef = v := by simpa using hp
 have hq' : tmps[q]?.getD undef = u := by simpa using hq
 simp [results, h, hp', hq']
section
variable {P : Program} {ops : Array Oper} {Q : Exit → Act → World → Prop} {md : Region.Mode} {S : World → Prop} {n : Nat}
end
section
variable {P : Program} {ops : Array Oper} {o : Oper} {a : Act} {w : World} {c : Ctx} {L : List Blk} {Q : Exit → Act → World → Prop} {S : World → Prop} {n fuel : Nat} {listed : Array Bool}
end
end Go.Proofs.YtbdgncndhnnjoaaGreatDoor.Ip

namespace Go.Proofs.YtbdgncndhnnjoaaGreatDoor.Ip
open Go.RowKit
structure SB (Z : Obj) (cap : Nat) (l : List Value) : Prop where
 ex : ∃ cs T fr, Z = .cells cs T fr ∧ l.length ≤ cap ∧ cap ≤ cs.size ∧ (∀ i, i < l.length → cs[i]? = l[i]?) ∧ ∀ i, i < cap → (decide (fr.1 ≤ i) && decide (i < fr.2)) = false
theorem SB.le {Z : Obj} {cap : Nat} {l : List Value} (h : SB Z cap l) : l.length ≤ cap := by
 obtain ⟨_, _, _, _, h1, _⟩ := h.ex
 exact h1
theorem SB.cell {Z : Obj} {cap : Nat} {l : List Value} (h : SB Z cap l) {W : World} {g : Nat} (hz : W.heap[g]? = some Z) {i : Nat} {v : Value} (hi : l[i]? = some v) : W.cell? ⟨g, i, none⟩ = some v := by
 obtain ⟨cs, T, fr, rfl, _, _, h3, _⟩ := h.ex
 have hlt := (List.getElem?_eq_some_iff.1 hi).1
 unfold World.cell?
 rw [hz]
 simp only [Option.isSome_none, Bool.false_eq_true, if_false]
 rw [h3 i hlt, hi]
theorem SB.set {Z : Obj} {cap : Nat} {l : List Value} (h : SB Z cap l) (hr : l.length < cap) (v : Value) {W : World} {g : Nat} (hz : W.heap[g]? = some Z) : ∃ Z', (W.setCell ⟨g, l.length, none⟩ v).heap[g]? = some Z' ∧ SB Z' cap (l ++ [v]) := by
 obtain ⟨cs, T, fr, rfl, h1, h2, h3, h4⟩ := h.ex
 refine ⟨.cells (cs.setIfInBounds l.length v) T fr, ?_, ⟨_, T, fr, rfl, by simp; omega, by simpa using h2, fun i hi => ?_, h4⟩⟩
 ·simp [World.setCell, Array.getElem?_modify, hz]
 ·rw [Array.getElem?_setIfInBounds]
  by_cases e : l.length = i
  ·subst e
   rw [if_pos rfl, if_pos (by omega)]
   simp
  ·simp at hi
   rw [if_neg e, h3 i (by omega), List.getElem?_append_left (by omega)]
def bs (ns : List Int) : ByteArray := ⟨(ns.map fun n => UInt8.ofNat n.toNat).toArray⟩
def sb (s : ByteArray) : List Int := s.data.toList.map fun b => (b.toNat : Int)
def vs8 (l : List Int) : List Value := l.map fun x => .int .u8 x
theorem bs_size (l : List Int) : (bs l).size = l.length := by simp [bs, ByteArray.size]
theorem sb_length (s : ByteArray) : (sb s).length = s.size := by simp [sb]
theorem vs8_length (l : List Int) : (vs8 l).length = l.length := by simp [vs8]
theorem sb_get (s : ByteArray) (i : Nat) (h : i < s.size) : (sb s)[i]? = some (bt s i) := by
 have h' : i < s.data.size := h
 unfold sb bt
 rw [List.getElem?_map, Array.getElem?_toList, Array.getElem?_eq_getElem h']
 rfl
section
variable {P : Program} {ops : Array Oper} {rest : List Oper} {o : Oper} {a : Act} {w : World} {c : Ctx} {L : List Blk} {Q : Exit → Act → World → Prop}
theorem rounds_go {c : Code} {n : Nat} (h : c.wp P (Exit.then (Code.rounds P c Q n) Q) a w) : Code.rounds P c Q (n + 1) a w := h
theorem run_appR (t ty e : TypeId) (ht : P.underlying t = some (.slice e)) (hz : (P.info? e).map (·.size) = some 1) (g cap : Nat) (Z : Obj) (l : List Value) (hg : w.heap[g]? = some Z) (hs : SB Z cap l) (hroom : l.length < cap) (gx : Nat) (v : Value) (hx : w.cell? ⟨gx, 0, none⟩ = some v) (h1 : v.oneCell' = true) :
  (Builtin.append_ #[t, t] ty #[.slice (some ⟨g, 0, none⟩) l.length cap, .slice (some ⟨gx, 0, none⟩) 1 1]).run P w = .ok (.slice (some ⟨g, 0, none⟩) (l.length + 1) cap) (w.setCell ⟨g, l.length, none⟩ v) := by
 have hf := run_firstCells_some (P := P) w 1 1 ⟨gx, 0, none⟩ 1 1 [v] (by simp) (fun j u hu => by
  cases j with
  | zero => simp at hu; subst hu; rw [add_at]; exact hx
  | succ j => simp at hu)
 obtain ⟨cs, T, fr, rfl, h2, h3, h4, h5⟩ := hs.ex
 have hst := run_storeCells_cells (P := P) g l.length [v] 0 w (fun j hj => by
   simp at hj
   subst hj
   unfold World.cell?
   rw [hg]
   simp
   omega) (fun j hj => by
   simp at hj
   subst hj
   unfold World.frozen?
   rw [hg]
   exact h5 _ hroom) (by simpa using h1)
 simp only [Nat.add_zero, World.setCells] at hst
 cases hq : P.info? e with
 | none => simp [hq] at hz
 | some i =>
  have hsz : i.size = 1 := by simpa [hq] using hz
  have hr2 : l.length + 1 ≤ cap := hroom
  simp [Builtin.append_, run_underlying ht, sizeOf, typeInfo, hq, hsz, Builtin.lenOf, hr2, hf, add_at, hst]
theorem pl_appR (M : Mem c L w) (hw : Region.wanted o (yielded ops a.tmps) = true) (d : Option Tmp) (hd : o.dst = d) (t ty e : TypeId) (ht : P.underlying t = some (.slice e)) (hz : (P.info? e).map (·.size) = some 1) (i g n cap : Nat) (Z : Obj) (l : List Value) (hi : L[i]? = some ⟨g, Z⟩) (hs : SB Z cap l) (hn : l.length = n) (hroom : n < cap) (j gx Tx : Nat) (v : Value) (hj : L[j]? = some ⟨gx, .cells (av 1 (fun _ => v)) Tx⟩) (h1 : v.oneCell' = true)
  (hrun : ∀ w, (execOp a.eval o).run P w = (do pure (Next.value (← Builtin.append_ #[t, t] ty #[.slice (some ⟨g, 0, none⟩) n cap, .slice (some ⟨gx, 0, none⟩) 1 1]))).run P w)
  (h : ∀ Z' w', SB Z' cap (l ++ [v]) → Mem c (L.set i ⟨g, Z'⟩) w' → PL P ops Q rest (a.put d (.slice (some ⟨g, 0, none⟩) (n + 1) cap)) w') : PL P ops Q (o :: rest) a w := by
 subst hn
 obtain ⟨Z', h2, h3⟩ := hs.set hroom v (M.get i hi)
 refine pl_to hw d hd _ _ ?_ (h Z' _ h3 (M.put i ⟨g, Z⟩ hi Z' (grown_setCell _ _ _ _) h2))
 rw [hrun]
 simp only [Sem.run_bind, run_appR t ty e ht hz g cap Z l (M.get i hi) hs hroom gx v (cell_av (M.get j hj) (by decide)) h1, Result.andThen_ok, Sem.run_pure]
theorem set_perm {α : Type} : ∀ (L : List α) (i : Nat) (b : α), i < L.length → (L.set i b).Perm (L.eraseIdx i ++ [b])
 | [], _, _, h => absurd h (by simp)
 | x :: L, 0, b, _ => by
  simp only [List.set_cons_zero, List.eraseIdx_cons_zero]
  exact (List.perm_append_comm (l₁ := [b]) (l₂ := L))
 | x :: L, i + 1, b, h => by
  simp only [List.set_cons_succ, List.eraseIdx_cons_succ, List.cons_append]
  exact (set_perm L i b (by simpa using h)).cons x
theorem pl_app (M : Mem c L w) (hw : Region.wanted o (yielded ops a.tmps) = true) (d : Option Tmp) (hd : o.dst = d) (t ty e : TypeId) (info : TypeInfo) (zv : Value) (ht : P.underlying t = some (.slice e)) (hin : P.info? e = some info) (hzv : info.zero = some zv) (hsz : info.size = 1) (hby : info.bytes ≤ 16) (hzc : zv.cells.size = 1) (i g n cap : Nat) (Z : Obj) (l : List Value) (hi : L[i]? = some ⟨g, Z⟩) (hs : SB Z cap l) (hn : l.length = n) (hle : n < 1000000) (j gx Tx : Nat) (v : Value) (hj : L[j]? = some ⟨gx, .cells (av 1 (fun _ => v)) Tx⟩) (h1 : v.oneCell' = true)
  (hrun : ∀ w, (execOp a.eval o).run P w = (do pure (Next.value (← Builtin.append_ #[t, t] ty #[.slice (some ⟨g, 0, none⟩) n cap, .slice (some ⟨gx, 0, none⟩) 1 1]))).run P w)
  (h : ∀ g' cap' Z' w', SB Z' cap' (l ++ [v]) → Mem c (L.eraseIdx i ++ [⟨g', Z'⟩]) w' → PL P ops Q rest (a.put d (.slice (some ⟨g', 0, none⟩) (n + 1) cap')) w') : PL P ops Q (o :: rest) a w := by
 have hz : (P.info? e).map (·.size) = some 1 := by rw [hin]; simpa using hsz
 have hil := (List.getElem?_eq_some_iff.1 hi).1
 by_cases hroom : n < cap
 ·refine pl_appR M hw d hd t ty e ht hz i g n cap Z l hi hs hn hroom j gx Tx v hj h1 hrun fun Z' w' h3 M' => ?_
  exact h g cap Z' w' h3 (M'.perm (set_perm L i _ hil))
 ·subst hn
  have hcell := cell_av (M.get j hj) (i := 0) (by decide)
  have hcap : cap = l.length := by have := hs.le; omega
  have hr := run_append_grow (P := P) w t ty e info zv ht hin hzv ⟨g, 0, none⟩ l.length cap l (by rw [hsz]; omega) (fun k u hu => by rw [add_at, Nat.zero_add]; exact hs.cell (M.get i hi) hu) ⟨gx, 0, none⟩ 1 1 [v] (by rw [hsz]; rfl) (fun k u hu => by
   cases k with
   | zero => simp at hu; subst hu; rw [add_at]; exact hcell
   | succ k => simp at hu) (by omega) (by omega) (growslice_fits (by omega) (by
    have := Nat.mul_le_mul (show l.length + 1 ≤ 1000000 by omega) hby
    omega))
  have hge := grownCap_ge w (l.length + 1) cap e
  generalize grownCap w (l.length + 1) cap e = nc at hr hge
  have hr2 : (execOp a.eval o).run P w = .ok (.value (.slice (some ⟨w.heap.size, 0, none⟩) (l.length + 1) nc)) (w.drew.alloc (.cells (l.toArray ++ [v].toArray ++ Builtin.zeroCells zv.cells (nc - (l.length + 1))) e)) := by
   rw [hrun]
   simp only [Sem.run_bind, hr, Result.andThen_ok, Sem.run_pure]
  refine pl_to hw d hd _ _ hr2 (h w.heap.size nc (.cells (l.toArray ++ [v].toArray ++ Builtin.zeroCells zv.cells (nc - (l.length + 1))) e) _ ⟨_, e, (0, 0), rfl, by simp; omega, ?_, fun k hk => ?_, fun k _ => by simp⟩ ?_)
  ·simp only [Array.size_append, List.size_toArray, List.length_cons, List.length_nil, size_zeroCells, hzc]
   omega
  ·rw [Array.getElem?_append_left (by simpa using hk)]
   simp
  ·refine (M.drew.new w.heap.size _ (new_below _ _) (heap_alloc_new w.drew _) (Nat.le_refl _)).drop ?_
   exact (List.eraseIdx_sublist L i).append (List.Sublist.refl _)
theorem pl_app0 (M : Mem c L w) (hw : Region.wanted o (yielded ops a.tmps) = true) (d : Option Tmp) (hd : o.dst = d) (t ty e : TypeId) (info : TypeInfo) (zv : Value) (ht : P.underlying t = some (.slice e)) (hin : P.info? e = some info) (hzv : info.zero = some zv) (hsz : info.size = 1) (hby : info.bytes ≤ 16) (hzc : zv.cells.size = 1) (j gx Tx : Nat) (v : Value) (hj : L[j]? = some ⟨gx, .cells (av 1 (fun _ => v)) Tx⟩)
  (hrun : ∀ w, (execOp a.eval o).run P w = (do pure (Next.value (← Builtin.append_ #[t, t] ty #[.slice none 0 0, .slice (some ⟨gx, 0, none⟩) 1 1]))).run P w)
  (h : ∀ g' cap' Z' w', SB Z' cap' [v] → Mem c (L ++ [⟨g', Z'⟩]) w' → PL P ops Q rest (a.put d (.slice (some ⟨g', 0, none⟩) 1 cap')) w') : PL P ops Q (o :: rest) a w := by
 have hcell := cell_av (M.get j hj) (i := 0) (by decide)
 have hr := run_append_nil (P := P) w t ty e info zv ht hin hzv ⟨gx, 0, none⟩ 1 1 [v] (by rw [hsz]; rfl) (fun k u hu => by
   cases k with
   | zero => simp at hu; subst hu; rw [add_at]; exact hcell
   | succ k => simp at hu) (by omega) (by omega) (by omega)
 have hge := grownCap_ge w 1 0 e
 generalize grownCap w 1 0 e = nc at hr hge
 have hr2 : (execOp a.eval o).run P w = .ok (.value (.slice (some ⟨w.heap.size, 0, none⟩) 1 nc)) (w.drew.alloc (.cells ([v].toArray ++ Builtin.zeroCells zv.cells (nc - 1)) e)) := by
  rw [hrun]
  simp only [Sem.run_bind, hr, Result.andThen_ok, Sem.run_pure]
 refine pl_to hw d hd _ _ hr2 (h w.heap.size nc (.cells ([v].toArray ++ Builtin.zeroCells zv.cells (nc - 1)) e) _ ⟨_, e, (0, 0), rfl, by simp; omega, ?_, fun k hk => ?_, fun k _ => by simp⟩ ?_)
 ·simp only [Array.size_append, List.size_toArray, List.length_cons, List.length_nil, size_zeroCells, hzc]
  omega
 ·rw [Array.getElem?_append_left (by simpa using hk)]
  simp
 ·exact M.drew.new w.heap.size _ (new_below _ _) (heap_alloc_new w.drew _) (Nat.le_refl _)
theorem pl_make (M : Mem c L w) (hw : Region.wanted o (yielded ops a.tmps) = true) (d : Option Tmp) (hd : o.dst = d) (t e : TypeId) (info : TypeInfo) (zv : Value) (ht : P.underlying t = some (.slice e)) (hin : P.info? e = some info) (hzv : info.zero = some zv) (hsz : info.size = 1) (hby : info.bytes ≤ 16) (x y : Operand) (ho : o.op = .makeSlice t x y) (kx ky : IntKind) (hx : a.eval x = .int kx 0) (cap : Nat) (hy : a.eval y = .int ky (cap : Int)) (hc : cap < 1000000)
  (h : ∀ g Z w', SB Z cap [] → Mem c (L ++ [⟨g, Z⟩]) w' → PL P ops Q rest (a.put d (.slice (some ⟨g, 0, none⟩) 0 cap)) w') : PL P ops Q (o :: rest) a w := by
 have hr := run_make (P := P) w t e info zv ht hin hzv kx ky 0 (cap : Int) (Int.le_refl _) (by omega) (by
  have := Int.mul_le_mul (show (info.bytes : Int) ≤ 16 by omega) (show (cap : Int) ≤ 1000000 by omega) (by omega) (by omega)
  omega) (by omega)
 simp only [Int.toNat_zero, Int.toNat_natCast, hsz, Nat.mul_one] at hr
 refine pl_to hw d hd (.slice (some ⟨w.heap.size, 0, none⟩) 0 cap) _ ?_ (h w.heap.size (.cells (madeCells zv.cells cap) e) (w.alloc (.cells (madeCells zv.cells cap) e)) ⟨_, e, (0, 0), rfl, by simp, by rw [size_madeCells]; exact Nat.le_refl _, fun i hi => by simp at hi, fun i _ => by simp⟩ (M.new _ _ (new_below w _) (heap_alloc_new w _) (Nat.le_refl _)))
 unfold execOp
 simp only [ho, hx, hy, Sem.run_bind, hr, Result.andThen_ok, Sem.run_pure]
end
section
variable {ops : Array Oper} {rest : List Oper} {o : Oper} {a : Act} {w : World} {c : Ctx} {L : List Blk} {Q : Exit → Act → World → Prop}
theorem pl_conv (M : Mem c L w) (hw : Region.wanted o (yielded ops a.tmps) = true) (d : Option Tmp) (hd : o.dst = d) (x : Operand) (ho : o.op = .convert 9 41 x) (s : ByteArray) (hx : a.eval x = .string s)
  (h : ∀ g cap Z w', SB Z cap (vs8 (sb s)) → Mem c (L ++ [⟨g, Z⟩]) w' → PL Tryz.prog ops Q rest (a.put d (.slice (some ⟨g, 0, none⟩) s.size cap)) w') : PL Tryz.prog ops Q (o :: rest) a w := by
 have hr := run_bytes_of_string (P := Tryz.prog) w 9 41 5 s Tryz.underlying9 Tryz.underlying41 Tryz.underlying5
 have hge : s.size ≤ grownCap w s.size 0 5 := grownCap_ge w s.size 0 5
 generalize grownCap w s.size 0 5 = cap at hr hge
 refine pl_to hw d hd _ _ (by unfold execOp; simp only [ho, hx, Sem.run_bind, hr, Result.andThen_ok, Sem.run_pure]) (h w.heap.size cap (.cells (bytesRow s cap) 5 ((bytesRow s cap).size, (bytesRow s cap).size + 1)) _ ⟨_, _, _, rfl, by rw [vs8_length, sb_length]; exact hge, ?_, fun i hi => ?_, fun i hi => ?_⟩ (M.drew.new _ _ (new_below _ _) (heap_alloc_new w.drew _) (Nat.le_refl _)))
 ·have hs : s.size = s.data.size := rfl
  simp [bytesRow]
  omega
 ·rw [vs8_length, sb_length] at hi
  have hi' : i < s.data.size := hi
  unfold bytesRow vs8
  rw [Array.getElem?_append_left (by simpa using hi'), Array.getElem?_map, Array.getElem?_eq_getElem hi', List.getElem?_map, sb_get s i hi]
  unfold bt
  rw [Array.getElem?_eq_getElem hi']
  rfl
 ·have hs : s.size = s.data.size := rfl
  have hsz : cap ≤ (bytesRow s cap).size := by
   simp [bytesRow]
   omega
  simp
  omega
set_option maxRecDepth 100000 in
theorem pl_back (M : Mem c L w) (hw : Region.wanted o (yielded ops a.tmps) = true) (d : Option Tmp) (hd : o.dst = d) (x : Operand) (ho : o.op = .convert 41 9 x) (i g n cap : Nat) (hx : a.eval x = .slice (some ⟨g, 0, none⟩) n cap) (Z : Obj) (hi : L[i]? = some ⟨g, Z⟩) (l : List Int) (cp : Nat) (hs : SB Z cp (vs8 l)) (hn : l.length = n) (hf : ∀ x ∈ l, 0 ≤ x ∧ x < 256)
  (h : PL Tryz.prog ops Q rest (a.put d (.string (bs l))) w) : PL Tryz.prog ops Q (o :: rest) a w := by
 subst hn
 refine pl_to hw d hd _ w ?_ h
 have hl : (l.map fun n => UInt8.ofNat n.toNat).length = l.length := by simp
 have h2 := run_convert_bytes_back (P := Tryz.prog) w 41 9 5 ⟨g, 0, none⟩ cap (l.map fun n => UInt8.ofNat n.toNat) Tryz.underlying41 Tryz.underlying5 Tryz.underlying9 (fun j hj => by
  rw [hl] at hj
  have hv : (vs8 l)[j]? = some (.int .u8 (l[j]'hj)) := by
   unfold vs8
   rw [List.getElem?_map, List.getElem?_eq_getElem hj]
   rfl
  rw [add_at, Nat.zero_add, hs.cell (M.get i hi) hv]
  have := hf _ (List.getElem_mem hj)
  simp
  omega)
 rw [hl] at h2
 unfold execOp
 simp only [ho, hx, Sem.run_bind, h2, Result.andThen_ok, Sem.run_pure]
 rfl
end
end Go.Proofs.YtbdgncndhnnjoaaGreatDoor.Ip

namespace Go.Proofs.YtbdgncndhnnjoaaGreatDoor.Ip
open Go.RowKit
theorem inz5 : (Tryz.prog.info? 5).map (·.size) = some 1 := by kernel_rfl
theorem inz9 : (Tryz.prog.info? 9).map (·.size) = some 1 := by kernel_rfl
theorem inz47 : (Tryz.prog.info? 47).map (·.size) = some 1 := by kernel_rfl
theorem inz49 : (Tryz.prog.info? 49).map (·.size) = some 3 := by kernel_rfl
theorem inz101 : (Tryz.prog.info? 101).map (·.size) = some 1 := by kernel_rfl
theorem inz51 : (Tryz.prog.info? 51).map (·.size) = some 4 := by kernel_rfl
theorem inz188 : (Tryz.prog.info? 188).map (·.size) = some 8 := by kernel_rfl
theorem Mem.oldc {c : Ctx} {L : List Blk} {W : World} (M : Mem c L W) {g k : Nat} {v : Value} (hc : c.w.cell? ⟨g, k, none⟩ = some v) (hr : g ∉ c.r) : W.cell? ⟨g, k, none⟩ = some v := by
 have hlt : g < c.w.heap.size := by
  refine Classical.byContradiction fun hn => ?_
  have : c.w.heap[g]? = none := Array.getElem?_eq_none (by omega)
  simp [World.cell?, this] at hc
 rw [← hc]
 unfold World.cell?
 simp only
 rw [M.old.block g hlt hr]
theorem wrap64 {x : Int} (h0 : -9223372036854775808 ≤ x) (h1 : x < 9223372036854775808) : IntKind.wrap .i64 x = x := by
 simp [IntKind.wrap, IntKind.signed, IntKind.bits, go_sem]
 omega
theorem run_ixL {P : Program} {a : Act} {o : Oper} (t elem : TypeId) (hu : P.underlying t = some (.slice elem)) (hs : (P.info? elem).map (·.size) = some 1) (x ix : Operand) (ho : o.op = .indexAddr t x ix) (g off len cap : Nat) (hx : a.eval x = .slice (some ⟨g, off, none⟩) len cap) (k : IntKind) (i : Nat) (hi : a.eval ix = .int k (i : Int)) (hlt : i < len) (w : World) :
  (execOp a.eval o).run P w = .ok (.value (.pointer (some ⟨g, off + i, none⟩))) w := by
 cases hq : P.info? elem with
 | none => simp [hq] at hs
 | some u =>
  have hsz : u.size = 1 := by simpa [hq] using hs
  unfold execOp
  simp [ho, hx, hi, Instr.indexAt, asIntOf, run_underlying hu, sizeOf, typeInfo, hq, hsz, add_at, hlt]
theorem run_cat {P : Program} {a : Act} {o : Oper} (t rt : TypeId) (x y : Operand) (ho : o.op = .binOp .add t x y rt) (s u : ByteArray) (hx : a.eval x = .string s) (hy : a.eval y = .string u) (hb : s.size + u.size ≤ 9223372036854775807) (w : World) :
  (execOp a.eval o).run P w = .ok (.value (.string (s ++ u))) w := by
 have h := run_string_add_sum (P := P) (w := w) s u hb
 unfold execOp
 simp [ho, hx, hy, eqGuard, binOp, h]
theorem run_ixS {P : Program} {a : Act} {o : Oper} (t : TypeId) (hu : P.underlying t = some .string) (x ix : Operand) (ho : o.op = .index t x ix) (s : ByteArray) (hx : a.eval x = .string s) (k : IntKind) (i : Nat) (hi : a.eval ix = .int k (i : Int)) (hlt : i < s.size) (w : World) :
  (execOp a.eval o).run P w = .ok (.value (.int .u8 (bt s i))) w := by
 have e : s[i]? = some s[i] := ByteArray.getElem?_lt' s i hlt
 have e2 : bt s i = (s[i].toNat : Int) := by
  unfold bt
  rw [Array.getElem?_eq_getElem hlt]
  rfl
 unfold execOp
 simp [ho, hx, hi, Instr.index, asIntOf, run_underlying hu, e, e2]
theorem run_ix0 {P : Program} {a : Act} {o : Oper} (t elem : TypeId) (hu : P.underlying t = some (.slice elem)) (hs : (P.info? elem).map (·.size) = some 1) (x ix : Operand) (ho : o.op = .indexAddr t x ix) (g len cap : Nat) (hx : a.eval x = .slice (some ⟨g, 0, none⟩) len cap) (k : IntKind) (i : Nat) (hi : a.eval ix = .int k (i : Int)) (hlt : i < len) (w : World) :
  (execOp a.eval o).run P w = .ok (.value (.pointer (some ⟨g, i, none⟩))) w := by
 have h := run_ixL (P := P) t elem hu hs x ix ho g 0 len cap hx k i hi hlt w
 rwa [Nat.zero_add] at h
def ob8 (x y : Int) : Int := IntKind.wrap .u8 (BitVec.ofInt 8 x ||| BitVec.ofInt 8 y).toNat
theorem run_shlU {P : Program} {a : Act} {o : Oper} (t rt : TypeId) (x y : Operand) (ho : o.op = .binOp .shl t x y rt) (k : Int) (ky : IntKind) (m : Nat) (hx : a.eval x = .int .u64 k) (hy : a.eval y = .int ky (m : Int)) (_hm : m ≤ 64) (w : World) :
  (execOp a.eval o).run P w = .ok (.value (.int .u64 (sl k m))) w := by
 unfold execOp sl
 simp [ho, hx, hy, eqGuard, binOp]
theorem run_shrU {P : Program} {a : Act} {o : Oper} (t rt : TypeId) (x y : Operand) (ho : o.op = .binOp .shr t x y rt) (k : Int) (ky : IntKind) (m : Nat) (hx : a.eval x = .int .u64 k) (hy : a.eval y = .int ky (m : Int)) (_hm : m ≤ 64) (w : World) :
  (execOp a.eval o).run P w = .ok (.value (.int .u64 (sr k m))) w := by
 have hp : (0 : Int) ≤ 2 ^ m := Int.le_of_lt (Int.pow_pos (by decide))
 unfold execOp sr
 rw [Int.fdiv_eq_ediv_of_nonneg k hp]
 simp [ho, hx, hy, eqGuard, binOp]
section
variable {P : Program} {ops : Array Oper} {rest : List Oper} {o : Oper} {a : Act} {w : World} {c : Ctx} {L : List Blk} {Q : Exit → Act → World → Prop}
theorem pl_copyC (M : Mem c L w) (hw : Region.wanted o (yielded ops a.tmps) = true) (d : Option Tmp) (hd : o.dst = d) (dT sT ty elem : TypeId) (hu : P.underlying dT = some (.slice elem)) (hz : (P.info? elem).map (·.size) = some 1) (i g n T : Nat) (F : Nat → Value) (hi : L[i]? = some ⟨g, .cells (av n F) T⟩) (g2 : Nat) (F2 : Nat → Value) (od dl dc os sl sc k : Nat) (hk : k = Nat.min sl dl) (hd1 : od + k ≤ n) (hsrc : ∀ w, Mem c L w → ∀ j, j < k → w.cell? ⟨g2, os + j, none⟩ = some (F2 j)) (h1 : ∀ j, (F2 j).oneCell' = true) (Fn : Nat → Value) (hfn : ∀ j, j < n → (if od ≤ j ∧ j < od + k then F2 (j - od) else F j) = Fn j)
  (hrun : ∀ w, (execOp a.eval o).run P w = (do pure (Next.value (← Builtin.copy_ #[dT, sT] ty #[.slice (some ⟨g, od, none⟩) dl dc, .slice (some ⟨g2, os, none⟩) sl sc]))).run P w)
  (h : ∀ w', Mem c (L.set i ⟨g, .cells (av n Fn) T⟩) w' → PL P ops Q rest (a.put d (goInt k)) w') : PL P ops Q (o :: rest) a w := by
 have R := M.get i hi
 have hl : (av k F2).toList.length = k := by simp [av_size]
 have hr := run_copy_cells (P := P) w dT sT ty elem g od dl dc ⟨g2, os, none⟩ sl sc (av k F2).toList hu hz (by rw [hl, hk])
  (fun j v hv => by
   obtain ⟨hj, rfl⟩ := av_toList_get _ _ _ _ hv
   rw [add_at]
   exact hsrc w M j hj)
  (fun j hj => by rw [hl] at hj; rw [cell_av R (by omega)]; rfl) (fun j hj => free_av R _)
  (fun v hv => by
   obtain ⟨j, hj⟩ := List.mem_iff_getElem?.1 hv
   obtain ⟨hj', rfl⟩ := av_toList_get _ _ _ _ hj
   exact h1 _)
 rw [hl] at hr
 refine pl_to hw d hd (goInt k) _ ?_ (h _ (M.put i ⟨g, _⟩ hi _ (grown_setCells g _ _ _) (by rw [heap_setCells g T _ w _ od R, setAll_av n F F2 Fn od k hd1 hfn])))
 rw [hrun]
 simp only [Sem.run_bind, hr, Result.andThen_ok, Sem.run_pure]
end
end Go.Proofs.YtbdgncndhnnjoaaGreatDoor.Ip

namespace Go.Proofs.YtbdgncndhnnjoaaGreatDoor.Ip
open Go.RowKit
def ls (l : List Value) : Nat → Value := fun i => l.getD i undef
theorem getD_app (l : List Value) (j : Nat) : l.getD j undef = l[j]?.getD undef := by simp
theorem part_ls (l : List Value) (off n : Nat) (l' : List Value) (h : (l.drop off).take n = l') (j : Nat) (hj : j < n) : ls l (off + j) = ls l' j := by
 subst h
 unfold ls
 rw [getD_app, getD_app, List.getElem?_take, if_pos hj, List.getElem?_drop]
theorem put_ls (l : List Value) (k : Nat) (v : Value) (l' : List Value) (h : l.set k v = l') {n : Nat} (j : Nat) (hj : j < n) (hl : n ≤ l.length := by exact Nat.le_of_ble_eq_true rfl) : (if j = k then v else ls l j) = ls l' j := by
 subst h
 unfold ls
 rw [getD_app, getD_app, List.getElem?_set]
 by_cases e : k = j
 ·subst e
  rw [if_pos rfl, if_pos rfl, if_pos (by omega)]
  rfl
 ·rw [if_neg (fun h => e h.symm), if_neg e]
theorem one_ls (l : List Value) (h : l.all (·.oneCell') = true) {n : Nat} (hn : n ≤ l.length := by exact Nat.le_of_ble_eq_true rfl) (j : Nat) (hj : j < n) : (ls l j).oneCell' = true := by
 unfold ls
 rw [getD_app, List.getElem?_eq_getElem (by omega)]
 exact List.all_eq_true.1 h _ (List.getElem_mem _)
theorem seq_pos {a b : ByteArray} (h : a = b) : (a.toList == b.toList) = true := by rw [h, beq_self_eq_true]
theorem seq_neg {a b : ByteArray} (h : ¬ a = b) : (a.toList == b.toList) = false := by
 rw [beq_eq_false_iff_ne]
 intro e
 rw [ByteArray.toList_eq, ByteArray.toList_eq] at e
 exact h (ByteArray.ext (Array.toList_inj.1 e))
theorem call_val {P : Program} {f : FuncId} {args : Array Value} {w : World} {v v' : Value} {X : World → Prop} (h : Calls P f args w fun e w' => e = .returned v ∧ X w') (hv : v = v') : Calls P f args w fun e w' => e = .returned v' ∧ X w' := hv ▸ h
theorem nat_of {k : IntKind} {x : Int} {v : Value} (h : v = .int k x) (h0 : 0 ≤ x) : v = .int k (x.toNat : Int) := by rw [h, Int.toNat_of_nonneg h0]
theorem cv_u8 (x : Int) : cv .u8 x = x % 256 := by
 unfold cv
 simp [IntKind.wrap, IntKind.signed, IntKind.bits]
theorem cv_u16 (x : Int) : cv .u16 x = x % 65536 := by
 unfold cv
 simp [IntKind.wrap, IntKind.signed, IntKind.bits]
theorem cv_u64 (x : Int) : cv .u64 x = x % 18446744073709551616 := by
 unfold cv
 simp [IntKind.wrap, IntKind.signed, IntKind.bits]
theorem cv_i64 {x : Int} (h0 : -9223372036854775808 ≤ x) (h1 : x < 9223372036854775808) : cv .i64 x = x := wrap64 h0 h1
end Go.Proofs.YtbdgncndhnnjoaaGreatDoor.Ip

namespace Go.Proofs.YtbdgncndhnnjoaaGreatDoor.Ip
open Go.RowKit
set_option maxRecDepth 100000
def w16 (f : Nat → Int) : Nat → Value := fun i => .int .u16 (f i)
theorem put_w16 (f : Nat → Int) (k : Nat) (v : Int) (j : Nat) : (if j = k then .int .u16 v else w16 f j) = w16 (upd f k v) j := by
 unfold w16 upd
 split <;> rfl
section
variable {P : Program}
theorem eqF_all (d : Nat) (xs ys : Array Value) (w : World) : ∀ (fs : List Field) (es : List (TypeId × Nat × Value × Value × Bool)), fs.map (fun f => (f.name == "_", f.type, f.offset)) = es.map (fun e => (false, e.1, e.2.1)) →
  (∀ e ∈ es, (part e.1 xs e.2.1).run P w = .ok e.2.2.1 w ∧ (part e.1 ys e.2.1).run P w = .ok e.2.2.2.1 w ∧ (Op.equalIn d e.1 e.2.2.1 e.2.2.2.1).run P w = .ok e.2.2.2.2 w) →
  (Op.eqFields d xs ys fs).run P w = .ok (es.all (·.2.2.2.2)) w
 | [], es, h, _ => by
  cases es with
  | nil => rfl
  | cons e es => simp at h
 | f :: fs, es, h, hp => by
  cases es with
  | nil => simp at h
  | cons e es =>
   simp only [List.map_cons, List.cons.injEq, Prod.mk.injEq] at h
   obtain ⟨⟨h1, h2, h3⟩, h4⟩ := h
   obtain ⟨p1, p2, p3⟩ := hp e (List.mem_cons_self ..)
   have hn : f.name ≠ "_" := by simpa using h1
   unfold Op.eqFields
   rw [if_pos hn]
   simp only [Sem.run_bind, h2, h3, p1, p2, p3, Result.andThen_ok, List.all_cons]
   cases hb : e.2.2.2.2
   ·simp
   ·simp only [Bool.not_true, Bool.false_eq_true, if_false, Bool.true_and]
    exact eqF_all d xs ys w fs es h4 fun e he => hp e (List.mem_cons_of_mem _ he)
end
theorem dec_bool (a b : Bool) : (a == b) = decide (a = b) := by cases a <;> cases b <;> rfl
theorem dec_int (a b : Int) : (a == b) = decide (a = b) := by
 rw [Bool.eq_iff_iff]
 simp
theorem dec_str (a b : ByteArray) : (a.toList == b.toList) = decide (a = b) := by
 by_cases h : a = b
 ·rw [seq_pos h, decide_eq_true h]
 ·rw [seq_neg h, decide_eq_false h]
theorem eqI24 (d : Nat) (v v' : Bool) (h h' l l' : Int) (w : World) : (Op.equalIn (d + 2) 49 (.agg (av 3 (ls [.bool v, .int .u64 h, .int .u64 l]))) (.agg (av 3 (ls [.bool v', .int .u64 h', .int .u64 l'])))).run Tryz.prog w = .ok (decide (v = v' ∧ h = h' ∧ l = l')) w := by
 rw [run_equalIn_struct w (d + 1) 49 _ _ (by kernel_rfl) (by kernel_rfl)]
 rw [eqF_all (d + 1) _ _ w _ [(4, 0, .bool v, .bool v', v == v'), (47, 1, .int .u64 h, .int .u64 h', h == h'), (47, 2, .int .u64 l, .int .u64 l', l == l')] (by kernel_rfl) (by
  intro e he
  simp only [List.mem_cons, List.mem_nil_iff, or_false] at he
  rcases he with rfl | rfl | rfl
  ·exact ⟨by kernel_rfl, by kernel_rfl, run_equalIn_bool' w d 4 v v' Tryz.underlying4⟩
  ·exact ⟨by kernel_rfl, by kernel_rfl, run_equalIn_int w d 47 .u64 .u64 h h' Tryz.underlying47⟩
  ·exact ⟨by kernel_rfl, by kernel_rfl, run_equalIn_int w d 47 .u64 .u64 l l' Tryz.underlying47⟩)]
 simp [dec_bool, Bool.decide_and, dec_int]
theorem eql24w (v v' : Bool) (h h' l l' : Int) (w : World) : (binOp .eql 49 (.agg (av 3 (ls [.bool v, .int .u64 h, .int .u64 l]))) (.agg (av 3 (ls [.bool v', .int .u64 h', .int .u64 l'])))).run Tryz.prog w = .ok (.bool (decide (v = v' ∧ h = h' ∧ l = l'))) w := by
 rw [run_eql_struct]
 have := eqI24 9998 v v' h h' l l' w
 rw [show (10000 : Nat) = 9998 + 2 from rfl, this]
 rfl
theorem eqI39 (d : Nat) (v v' : Bool) (h h' l l' b b' : Int) (w : World) : (Op.equalIn (d + 3) 51 (.agg (av 4 (ls [.bool v, .int .u64 h, .int .u64 l, .int .u8 b]))) (.agg (av 4 (ls [.bool v', .int .u64 h', .int .u64 l', .int .u8 b'])))).run Tryz.prog w = .ok (decide (v = v' ∧ h = h' ∧ l = l' ∧ b = b')) w := by
 rw [run_equalIn_struct w (d + 2) 51 _ _ (by kernel_rfl) (by kernel_rfl)]
 rw [eqF_all (d + 2) _ _ w _ [(49, 0, (.agg (av 3 (ls [.bool v, .int .u64 h, .int .u64 l]))), (.agg (av 3 (ls [.bool v', .int .u64 h', .int .u64 l']))), decide (v = v' ∧ h = h' ∧ l = l')), (5, 3, .int .u8 b, .int .u8 b', b == b')] (by kernel_rfl) (by
  intro e he
  simp only [List.mem_cons, List.mem_nil_iff, or_false] at he
  rcases he with rfl | rfl
  ·exact ⟨by kernel_rfl, by kernel_rfl, eqI24 d v v' h h' l l' w⟩
  ·exact ⟨by kernel_rfl, by kernel_rfl, run_equalIn_int w (d + 1) 5 .u8 .u8 b b' Tryz.underlying5⟩)]
 simp [Bool.decide_and, dec_int, Bool.and_assoc]
section
variable {P : Program} {a : Act} {o : Oper}
theorem run_bin (op : BinOp) (t : TypeId) (x y : Operand) {rt : TypeId} (ho : o.op = .binOp op t x y rt) {xs ys : Array Value} {v : Value} (hx : a.eval x = .agg xs) (hy : a.eval y = .agg ys) (hm : P.eqGuardType P.depth t = false) (hb : ∀ w, (binOp op t (.agg xs) (.agg ys)).run P w = .ok v w) (w : World) :
  (execOp a.eval o).run P w = .ok (.value v) w := by
 unfold execOp
 simp only [ho, hx, hy, Sem.run_bind, Result.andThen_ok, run_eqGuard_agg (hm := hm), hb, Sem.run_pure]
end
theorem eql24 {a : Act} {o : Oper} (v v' : Bool) (h h' l l' : Int) (x y : Operand) {rt : TypeId} (ho : o.op = .binOp .eql 49 x y rt) (hx : a.eval x = (.agg (av 3 (ls [.bool v, .int .u64 h, .int .u64 l])))) (hy : a.eval y = (.agg (av 3 (ls [.bool v', .int .u64 h', .int .u64 l'])))) (w : World) :
  (execOp a.eval o).run Tryz.prog w = .ok (.value (.bool (decide (v = v' ∧ h = h' ∧ l = l')))) w := run_bin .eql 49 x y ho hx hy (by kernel_rfl) (eql24w v v' h h' l l') w
end Go.Proofs.YtbdgncndhnnjoaaGreatDoor.Ip

namespace Go.Proofs.YtbdgncndhnnjoaaGreatDoor.Ip
open Go.RowKit
theorem Mem.geAt {w : World} {L : List Blk} {W : World} (M : Mem ⟨w, []⟩ L W) (i : Nat) {b : Blk} (hi : L[i]? = some b) : w.heap.size ≤ b.g := (M.ge b (List.mem_of_getElem? hi)).resolve_right (by simp)
theorem vs8_sb (s : ByteArray) (j : Nat) (h : j < s.size) : (vs8 (sb s))[j]? = some (.int .u8 (bt s j)) := by
 unfold vs8
 rw [List.getElem?_map, sb_get s j h]
 rfl
end Go.Proofs.YtbdgncndhnnjoaaGreatDoor.Ip

namespace Go.Proofs.YtbdgncndhnnjoaaGreatDoor.Ip
open Go.RowKit
theorem if_max (x y : Int) : (if y > x then y else x) = max x y := by
 rw [Int.max_def]
 split <;> split <;> omega
theorem run_shlV {P : Program} {a : Act} {o : Oper} (t rt : TypeId) (x y : Operand) (ho : o.op = .binOp .shl t x y rt) (k : Int) (ky : IntKind) (m : Nat) (hx : a.eval x = .int .u64 k) (hy : a.eval y = .int ky (m : Int)) (w : World) :
  (execOp a.eval o).run P w = .ok (.value (.int .u64 (sl k m))) w := by
 by_cases hm : m ≤ 64
 ·exact run_shlU t rt x y ho k ky m hx hy hm w
 ·have e : IntKind.wrap .u64 (k * 2 ^ min m 64) = IntKind.wrap .u64 (k * 2 ^ m) := by
   obtain ⟨n, rfl⟩ : ∃ n, m = n + 64 := ⟨m - 64, by omega⟩
   rw [IntKind.wrap_u64, IntKind.wrap_u64, Nat.min_eq_right (by omega), Int.pow_add, ← Int.mul_assoc]
   have : (2 : Int) ^ 64 = 18446744073709551616 := rfl
   rw [this, Int.mul_emod_left, Int.mul_emod_left]
  unfold execOp sl
  rw [← e]
  simp [ho, hx, hy, eqGuard, binOp, Op.shift, IntKind.bits]
  intro h
  omega
theorem run_shrV {P : Program} {a : Act} {o : Oper} (t rt : TypeId) (x y : Operand) (ho : o.op = .binOp .shr t x y rt) (k : Int) (ky : IntKind) (m : Nat) (hx : a.eval x = .int .u64 k) (hy : a.eval y = .int ky (m : Int)) (hm : m ≤ 64) (w : World) :
  (execOp a.eval o).run P w = .ok (.value (.int .u64 (sr k m))) w := run_shrU t rt x y ho k ky m hx hy hm w
def mA (v : Bool) (h l : Int) : Bool := v || (decide (h = 0) && decide (l < 4294967296))
def wdt (v : Bool) : Int := if v = true then 128 else 32
theorem wdt_nn (v : Bool) : 32 ≤ wdt v ∧ wdt v ≤ 128 := by
 cases v <;> decide
def onz (k : Int) : Int := sl 18446744073709551615 (max (64 - k) 0).toNat
def ctH (v : Bool) (h c : Int) : Int := un h (onz (128 - wdt v + c))
def ctL (v : Bool) (l c : Int) : Int := un l (onz (128 - wdt v + c - 64))
def mP (v : Bool) (h l b : Int) : Bool := mA v h l && decide (¬ wdt v < b) && decide (v = v ∧ ctH v h b = h ∧ ctL v l b = l)
set_option maxRecDepth 100000 in
set_option maxHeartbeats 4000000 in
set_option linter.unusedSimpArgs false in
theorem c_mayAddr (v : Bool) (h l : Int) (w : World) (hL : Laid w)  :
  Calls Tryz.prog 110 #[.agg (av 3 (ls [.bool (v), .int .u64 h, .int .u64 l]))] w fun r w' => r = .returned (.bool (mA v h l)) ∧ Below w.heap.size w w' := by
 go_enter Tryz.func110, Tryz.ntmps110
 have M := Mem.start hL
 refine wp_seq ?_
 refine rg_lit ?_
 refine pl_new M (want_no rfl) (some 1) rfl (.cells (av 3 (ls [.bool (v), .int .u64 h, .int .u64 l])) 49) (fun _ => by kernel_rfl) ?_
 intro g1 u1 M
 replace M : Mem ⟨w, []⟩ [⟨g1, .cells (av 3 (ls [.bool (v), .int .u64 h, .int .u64 l])) 49⟩] u1 := M
 refine pl_val (want_no rfl) (some 2) rfl (.bool false) (fun _ => by kernel_rfl) ?_
 refine pl_nil ?_
 refine au_then ?_
 refine wp_seq ?_
 refine rg_lit ?_
 refine pl_val (want_no rfl) (some 3) rfl (.pointer (some ⟨g1, 0, none⟩)) (fun _ => by kernel_rfl) ?_
 rcases Bool.eq_false_or_eq_true (v) with c0 | c0
 ·skip
  refine pl_cell M (want_no rfl) (some 4) rfl 4 _ rfl g1 0 (by kernel_rfl) (.bool true) (fun _ => by kernel_rfl) (fun w M => M.cell 0 rfl (by decide) (congrArg Value.bool c0)) ?_
  refine pl_val (want_no rfl) (some 5) rfl (.bool true) (fun _ => by kernel_rfl) ?_
  refine pl_skip (want_off 2 false rfl 5 rfl (by kernel_rfl)) (some 6) rfl ?_
  refine pl_skip (want_off 2 false rfl 5 rfl (by kernel_rfl)) (some 7) rfl ?_
  refine pl_skip (want_off 2 false rfl 5 rfl (by kernel_rfl)) (some 8) rfl ?_
  refine pl_skip (want_off 2 false rfl 5 rfl (by kernel_rfl)) (some 9) rfl ?_
  refine pl_skip (want_und 6 true rfl 9 rfl (by kernel_rfl)) (some 10) rfl ?_
  refine pl_skip (want_und 6 true rfl 9 rfl (by kernel_rfl)) (some 11) rfl ?_
  refine pl_skip (want_und 6 true rfl 9 rfl (by kernel_rfl)) (some 12) rfl ?_
  refine pl_skip (want_off 2 false rfl 5 rfl (by kernel_rfl)) (some 13) rfl ?_
  refine pl_val (want_no rfl) (some 14) rfl (.bool true) (fun _ => by kernel_rfl) ?_
  refine pl_val (want_no rfl) (some 2) rfl (.bool true) (fun _ => by kernel_rfl) ?_
  refine pl_nil ?_
  refine au_then ?_
  refine wp_ret ?_
  have e0 : mA v h l = true := by simp [mA, c0]
  exact bodyPost_ret (v := .bool true) (results_tmp1 Tryz.results110 _ _ _ (by kernel_rfl)) (by kernel_rfl) ⟨by simp only [e0], below_grown M.old⟩
 ·skip
  refine pl_cell M (want_no rfl) (some 4) rfl 4 _ rfl g1 0 (by kernel_rfl) (.bool false) (fun _ => by kernel_rfl) (fun w M => M.cell 0 rfl (by decide) (congrArg Value.bool c0)) ?_
  refine pl_val (want_no rfl) (some 5) rfl (.bool false) (fun _ => by kernel_rfl) ?_
  refine pl_val (want_on 2 false rfl 5 rfl (by kernel_rfl)) (some 6) rfl (.pointer (some ⟨g1, 1, none⟩)) (fun _ => by kernel_rfl) ?_
  refine pl_cell M (want_on 2 false rfl 5 rfl (by kernel_rfl)) (some 7) rfl 47 _ rfl g1 1 (by kernel_rfl) (.int .u64 h) (fun _ => by kernel_rfl) (fun w M => M.cell 0 rfl (by decide) rfl) ?_
  by_cases c1 : h = 0
  ·skip
   refine pl_val (want_on 2 false rfl 5 rfl (by kernel_rfl)) (some 8) rfl (.bool true) (fun w => Eq.trans (b := .ok (.value (.bool (decide (h = 0)))) w) (by kernel_rfl) (by rw [decide_eq_true (c1)])) ?_
   refine pl_val (want_on 2 false rfl 5 rfl (by kernel_rfl)) (some 9) rfl (.bool true) (fun _ => by kernel_rfl) ?_
   refine pl_val (want_on 6 true rfl 9 rfl (by kernel_rfl)) (some 10) rfl (.pointer (some ⟨g1, 2, none⟩)) (fun _ => by kernel_rfl) ?_
   refine pl_cell M (want_on 6 true rfl 9 rfl (by kernel_rfl)) (some 11) rfl 47 _ rfl g1 2 (by kernel_rfl) (.int .u64 l) (fun _ => by kernel_rfl) (fun w M => M.cell 0 rfl (by decide) rfl) ?_
   by_cases c2 : l < 4294967296
   ·skip
    refine pl_val (want_on 6 true rfl 9 rfl (by kernel_rfl)) (some 12) rfl (.bool true) (fun w => Eq.trans (b := .ok (.value (.bool (decide (l < 4294967296)))) w) (by kernel_rfl) (by rw [decide_eq_true (c2)])) ?_
    refine pl_val (want_on 2 false rfl 5 rfl (by kernel_rfl)) (some 13) rfl (.bool true) (fun _ => by kernel_rfl) ?_
    refine pl_val (want_no rfl) (some 14) rfl (.bool true) (fun _ => by kernel_rfl) ?_
    refine pl_val (want_no rfl) (some 2) rfl (.bool true) (fun _ => by kernel_rfl) ?_
    refine pl_nil ?_
    refine au_then ?_
    refine wp_ret ?_
    have e0 : mA v h l = true := by simp [mA, c0, c1, c2]
    exact bodyPost_ret (v := .bool true) (results_tmp1 Tryz.results110 _ _ _ (by kernel_rfl)) (by kernel_rfl) ⟨by simp only [e0], below_grown M.old⟩
   ·skip
    refine pl_val (want_on 6 true rfl 9 rfl (by kernel_rfl)) (some 12) rfl (.bool false) (fun w => Eq.trans (b := .ok (.value (.bool (decide (l < 4294967296)))) w) (by kernel_rfl) (by rw [decide_eq_false (c2)])) ?_
    refine pl_val (want_on 2 false rfl 5 rfl (by kernel_rfl)) (some 13) rfl (.bool false) (fun _ => by kernel_rfl) ?_
    refine pl_val (want_no rfl) (some 14) rfl (.bool false) (fun _ => by kernel_rfl) ?_
    refine pl_val (want_no rfl) (some 2) rfl (.bool false) (fun _ => by kernel_rfl) ?_
    refine pl_nil ?_
    refine au_then ?_
    refine wp_ret ?_
    have e0 : mA v h l = false := by simp [mA, c0, c1, c2]
    exact bodyPost_ret (v := .bool false) (results_tmp1 Tryz.results110 _ _ _ (by kernel_rfl)) (by kernel_rfl) ⟨by simp only [e0], below_grown M.old⟩
  ·skip
   refine pl_val (want_on 2 false rfl 5 rfl (by kernel_rfl)) (some 8) rfl (.bool false) (fun w => Eq.trans (b := .ok (.value (.bool (decide (h = 0)))) w) (by kernel_rfl) (by rw [decide_eq_false (c1)])) ?_
   refine pl_val (want_on 2 false rfl 5 rfl (by kernel_rfl)) (some 9) rfl (.bool false) (fun _ => by kernel_rfl) ?_
   refine pl_skip (want_off 6 true rfl 9 rfl (by kernel_rfl)) (some 10) rfl ?_
   refine pl_skip (want_off 6 true rfl 9 rfl (by kernel_rfl)) (some 11) rfl ?_
   refine pl_skip (want_off 6 true rfl 9 rfl (by kernel_rfl)) (some 12) rfl ?_
   refine pl_val (want_on 2 false rfl 5 rfl (by kernel_rfl)) (some 13) rfl (.bool false) (fun _ => by kernel_rfl) ?_
   refine pl_val (want_no rfl) (some 14) rfl (.bool false) (fun _ => by kernel_rfl) ?_
   refine pl_val (want_no rfl) (some 2) rfl (.bool false) (fun _ => by kernel_rfl) ?_
   refine pl_nil ?_
   refine au_then ?_
   refine wp_ret ?_
   have e0 : mA v h l = false := by simp [mA, c0, c1]
   exact bodyPost_ret (v := .bool false) (results_tmp1 Tryz.results110 _ _ _ (by kernel_rfl)) (by kernel_rfl) ⟨by simp only [e0], below_grown M.old⟩
set_option maxRecDepth 100000 in
set_option maxHeartbeats 4000000 in
set_option linter.unusedSimpArgs false in
theorem c_width (v : Bool) (h l : Int) (w : World) (hL : Laid w)  :
  Calls Tryz.prog 111 #[.agg (av 3 (ls [.bool (v), .int .u64 h, .int .u64 l]))] w fun r w' => r = .returned (.int .i64 (wdt v)) ∧ Below w.heap.size w w' := by
 go_enter Tryz.func111, Tryz.ntmps111
 have M := Mem.start hL
 refine wp_seq ?_
 refine rg_lit ?_
 refine pl_new M (want_no rfl) (some 1) rfl (.cells (av 3 (ls [.bool (v), .int .u64 h, .int .u64 l])) 49) (fun _ => by kernel_rfl) ?_
 intro g1 u1 M
 replace M : Mem ⟨w, []⟩ [⟨g1, .cells (av 3 (ls [.bool (v), .int .u64 h, .int .u64 l])) 49⟩] u1 := M
 refine pl_val (want_no rfl) (some 2) rfl (.int .i64 0) (fun _ => by kernel_rfl) ?_
 refine pl_nil ?_
 refine au_then ?_
 refine wp_seq ?_
 refine wp_seq ?_
 refine rg_lit ?_
 refine pl_val (want_no rfl) (some 3) rfl (.pointer (some ⟨g1, 0, none⟩)) (fun _ => by kernel_rfl) ?_
 rcases Bool.eq_false_or_eq_true (v) with c0 | c0
 ·skip
  refine pl_cell M (want_no rfl) (some 4) rfl 4 _ rfl g1 0 (by kernel_rfl) (.bool true) (fun _ => by kernel_rfl) (fun w M => M.cell 0 rfl (by decide) (congrArg Value.bool c0)) ?_
  refine pl_nil ?_
  refine au_then ?_
  refine wp_cond_true (by kernel_rfl) ?_
  refine wp_seq ?_
  refine rg_lit ?_
  refine pl_val (want_no rfl) (some 2) rfl (.int .i64 128) (fun _ => by kernel_rfl) ?_
  refine pl_nil ?_
  refine au_then ?_
  refine wp_ret ?_
  refine au_then_ret ?_
  have e0 : (wdt v) = 128 := by simp [wdt, c0]
  exact bodyPost_ret (v := .int .i64 128) (results_tmp1 Tryz.results111 _ _ _ (by kernel_rfl)) (by kernel_rfl) ⟨by simp only [e0], below_grown M.old⟩
 ·skip
  refine pl_cell M (want_no rfl) (some 4) rfl 4 _ rfl g1 0 (by kernel_rfl) (.bool false) (fun _ => by kernel_rfl) (fun w M => M.cell 0 rfl (by decide) (congrArg Value.bool c0)) ?_
  refine pl_nil ?_
  refine au_then ?_
  refine wp_cond_false (by kernel_rfl) ?_
  refine wp_skip ?_
  refine au_then ?_
  refine wp_seq ?_
  refine rg_lit ?_
  refine pl_val (want_no rfl) (some 2) rfl (.int .i64 32) (fun _ => by kernel_rfl) ?_
  refine pl_nil ?_
  refine au_then ?_
  refine wp_ret ?_
  have e0 : (wdt v) = 32 := by simp [wdt, c0]
  exact bodyPost_ret (v := .int .i64 32) (results_tmp1 Tryz.results111 _ _ _ (by kernel_rfl)) (by kernel_rfl) ⟨by simp only [e0], below_grown M.old⟩
set_option maxRecDepth 100000 in
set_option maxHeartbeats 4000000 in
set_option linter.unusedSimpArgs false in
theorem c_ones (c : Int) (h0 : -1000 ≤ c) (h1 : c ≤ 1000) (w : World) (hL : Laid w)  :
  Calls Tryz.prog 153 #[.int .i64 c] w fun r w' => r = .returned (.int .u64 (onz c)) ∧ Below w.heap.size w w' := by
 go_enter Tryz.func153, Tryz.ntmps153
 have M := Mem.start hL
 refine wp_seq ?_
 refine rg_lit ?_
 refine pl_val (want_no rfl) (some 2) rfl (.int .u64 0) (fun _ => by kernel_rfl) ?_
 refine pl_nil ?_
 refine au_then ?_
 refine wp_seq ?_
 refine rg_lit ?_
 refine pl_val (want_no rfl) (some 3) rfl (.int .i64 c) (fun _ => by kernel_rfl) ?_
 refine pl_val (want_no rfl) (some 4) rfl (.int .i64 (64 - c)) (fun w => Eq.trans (b := .ok (.value (.int .i64 (IntKind.wrap .i64 (64 - c)))) w) (by kernel_rfl) (by rw [wrap64 (by omega) (by omega)])) ?_
 refine pl_val (want_no rfl) (some 5) rfl (.int .i64 (max (64 - c) 0)) (fun w => Eq.trans (b := .ok (.value (.int .i64 (if (0 : Int) > (64 - c) then 0 else (64 - c)))) w) (by kernel_rfl) (by rw [if_max])) ?_
 refine pl_val (want_no rfl) (some 6) rfl (.int .u64 (sl 18446744073709551615 ((max (64 - c) 0).toNat))) (run_shlV 47 3 _ _ rfl 18446744073709551615 .i64 ((max (64 - c) 0).toNat) (by kernel_rfl) (nat_of (k := .i64) (by kernel_rfl) (by omega))) ?_
 refine pl_val (want_no rfl) (some 2) rfl (.int .u64 (sl 18446744073709551615 ((max (64 - c) 0).toNat))) (fun _ => by kernel_rfl) ?_
 refine pl_nil ?_
 refine au_then ?_
 refine wp_ret ?_
 have e0 : (onz c) = (sl 18446744073709551615 ((max (64 - c) 0).toNat)) := rfl
 exact bodyPost_ret (v := .int .u64 (sl 18446744073709551615 ((max (64 - c) 0).toNat))) (results_tmp1 Tryz.results153 _ _ _ (by kernel_rfl)) (by kernel_rfl) ⟨by simp only [e0], below_grown M.old⟩
set_option maxRecDepth 100000 in
set_option maxHeartbeats 4000000 in
set_option linter.unusedSimpArgs false in
theorem c_cut (v : Bool) (h l : Int) (b : Int) (hb0 : 0 ≤ b) (hb1 : b ≤ 255) (w : World) (hL : Laid w)  :
  Calls Tryz.prog 112 #[.agg (av 3 (ls [.bool (v), .int .u64 h, .int .u64 l])), .int .u8 b] w fun r w' => r = .returned (.agg (av 3 (ls [.bool (v), .int .u64 (ctH v h b), .int .u64 (ctL v l b)]))) ∧ Below w.heap.size w w' := by
 go_enter Tryz.func112, Tryz.ntmps112
 have M := Mem.start hL
 have hw := wdt_nn v
 refine wp_seq ?_
 refine rg_lit ?_
 refine pl_new M (want_no rfl) (some 2) rfl (.cells (av 3 (ls [.bool (v), .int .u64 h, .int .u64 l])) 49) (fun _ => by kernel_rfl) ?_
 intro g1 u1 M
 replace M : Mem ⟨w, []⟩ [⟨g1, .cells (av 3 (ls [.bool (v), .int .u64 h, .int .u64 l])) 49⟩] u1 := M
 refine pl_new M (want_no rfl) (some 4) rfl (.cells (av 3 (ls [.bool false, .int .u64 0, .int .u64 0])) 49) (fun _ => by kernel_rfl) ?_
 intro g2 u2 M
 replace M : Mem ⟨w, []⟩ [⟨g1, .cells (av 3 (ls [.bool (v), .int .u64 h, .int .u64 l])) 49⟩, ⟨g2, .cells (av 3 (ls [.bool false, .int .u64 0, .int .u64 0])) 49⟩] u2 := M
 refine pl_nil ?_
 refine au_then ?_
 refine wp_seq ?_
 refine rg_lit ?_
 refine pl_load M (want_no rfl) (some 6) rfl 49 _ rfl 0 g1 0 (by kernel_rfl) 3 49 (ls [.bool (v), .int .u64 h, .int .u64 l]) rfl 3 (ls [.bool (v), .int .u64 h, .int .u64 l]) (fun j _ => by rw [Nat.zero_add]) (by decide) _ Tryz.underlying49 rfl inz49 ?_
 refine pl_call M (want_no rfl) (some 7) rfl 111 #[.agg (av 3 (ls [.bool (v), .int .u64 h, .int .u64 l]))] (.int .i64 (wdt v)) (fun _ => by kernel_rfl) (fun w M => c_width v h l w M.laid) ?_
 intro u3 M
 refine pl_val (want_no rfl) (some 8) rfl (.int .i64 (128 - (wdt v))) (fun w => Eq.trans (b := .ok (.value (.int .i64 (IntKind.wrap .i64 (128 - (wdt v))))) w) (by kernel_rfl) (by rw [wrap64 (by omega) (by omega)])) ?_
 refine pl_val (want_no rfl) (some 9) rfl (.int .u8 b) (fun _ => by kernel_rfl) ?_
 refine pl_val (want_no rfl) (some 10) rfl (.int .i64 b) (fun w => Eq.trans (b := .ok (.value (.int .i64 (IntKind.wrap .i64 b))) w) (by kernel_rfl) (by rw [wrap64 (by omega) (by omega)])) ?_
 refine pl_val (want_no rfl) (some 11) rfl (.int .i64 ((128 - (wdt v)) + b)) (fun w => Eq.trans (b := .ok (.value (.int .i64 (IntKind.wrap .i64 ((128 - (wdt v)) + b)))) w) (by kernel_rfl) (by rw [wrap64 (by omega) (by omega)])) ?_
 refine pl_val (want_no rfl) (some 5) rfl (.int .i64 ((128 - (wdt v)) + b)) (fun _ => by kernel_rfl) ?_
 refine pl_nil ?_
 refine au_then ?_
 refine wp_seq ?_
 refine rg_tail M 6 (by kernel_rfl) (by kernel_rfl) ?_
 simp only [List.take_succ_cons, List.take_zero]
 refine k_val (want_no rfl) (some 12) rfl (.pointer (some ⟨g1, 1, none⟩)) (fun _ => by kernel_rfl) ?_
 refine k_cell M (want_no rfl) (some 13) rfl 47 _ rfl g1 1 (by kernel_rfl) (.int .u64 h) (fun _ => by kernel_rfl) (fun w M => M.cell 0 rfl (by decide) rfl) ?_
 refine k_val (want_no rfl) (some 14) rfl (.int .i64 ((128 - (wdt v)) + b)) (fun _ => by kernel_rfl) ?_
 refine k_call M (want_no rfl) (some 15) rfl 153 #[.int .i64 ((128 - (wdt v)) + b)] (.int .u64 (onz ((128 - (wdt v)) + b))) (fun _ => by kernel_rfl) (fun w M => c_ones ((128 - (wdt v)) + b) (by have := wdt_nn v; omega) (by have := wdt_nn v; omega) w M.laid) ?_
 refine k_val (want_no rfl) (some 16) rfl (.int .u64 (un h (onz ((128 - (wdt v)) + b)))) (fun _ => by kernel_rfl) ?_
 refine k_val (want_no rfl) (some 17) rfl (.pointer (some ⟨g1, 1, none⟩)) (fun _ => by kernel_rfl) ?_
 refine kl_nil ?_
 intro u4 M
 replace M : Mem ⟨w, []⟩ [⟨g1, .cells (av 3 (ls [.bool (v), .int .u64 h, .int .u64 l])) 49⟩, ⟨g2, .cells (av 3 (ls [.bool false, .int .u64 0, .int .u64 0])) 49⟩] u4 := M
 refine pl_put1 M (want_no rfl) rfl 47 _ _ rfl 0 g1 1 (by kernel_rfl) 3 49 (ls [.bool (v), .int .u64 h, .int .u64 l]) rfl (.int .u64 (un h (onz ((128 - (wdt v)) + b)))) (ls [.bool (v), .int .u64 (un h (onz ((128 - (wdt v)) + b))), .int .u64 l]) (by kernel_rfl) inz47 (by decide) rfl rfl (put_ls _ 1 _ _ rfl) ?_
 intro u5 M
 replace M : Mem ⟨w, []⟩ [⟨g1, .cells (av 3 (ls [.bool (v), .int .u64 (un h (onz ((128 - (wdt v)) + b))), .int .u64 l])) 49⟩, ⟨g2, .cells (av 3 (ls [.bool false, .int .u64 0, .int .u64 0])) 49⟩] u5 := M
 refine pl_nil ?_
 refine au_then ?_
 refine wp_seq ?_
 refine rg_tail M 7 (by kernel_rfl) (by kernel_rfl) ?_
 simp only [List.take_succ_cons, List.take_zero]
 refine k_val (want_no rfl) (some 18) rfl (.pointer (some ⟨g1, 2, none⟩)) (fun _ => by kernel_rfl) ?_
 refine k_cell M (want_no rfl) (some 19) rfl 47 _ rfl g1 2 (by kernel_rfl) (.int .u64 l) (fun _ => by kernel_rfl) (fun w M => M.cell 0 rfl (by decide) rfl) ?_
 refine k_val (want_no rfl) (some 20) rfl (.int .i64 ((128 - (wdt v)) + b)) (fun _ => by kernel_rfl) ?_
 refine k_val (want_no rfl) (some 21) rfl (.int .i64 (((128 - (wdt v)) + b) - 64)) (fun w => Eq.trans (b := .ok (.value (.int .i64 (IntKind.wrap .i64 (((128 - (wdt v)) + b) - 64)))) w) (by kernel_rfl) (by rw [wrap64 (by omega) (by omega)])) ?_
 refine k_call M (want_no rfl) (some 22) rfl 153 #[.int .i64 (((128 - (wdt v)) + b) - 64)] (.int .u64 (onz (((128 - (wdt v)) + b) - 64))) (fun _ => by kernel_rfl) (fun w M => c_ones (((128 - (wdt v)) + b) - 64) (by have := wdt_nn v; omega) (by have := wdt_nn v; omega) w M.laid) ?_
 refine k_val (want_no rfl) (some 23) rfl (.int .u64 (un l (onz (((128 - (wdt v)) + b) - 64)))) (fun _ => by kernel_rfl) ?_
 refine k_val (want_no rfl) (some 24) rfl (.pointer (some ⟨g1, 2, none⟩)) (fun _ => by kernel_rfl) ?_
 refine kl_nil ?_
 intro u6 M
 replace M : Mem ⟨w, []⟩ [⟨g1, .cells (av 3 (ls [.bool (v), .int .u64 (un h (onz ((128 - (wdt v)) + b))), .int .u64 l])) 49⟩, ⟨g2, .cells (av 3 (ls [.bool false, .int .u64 0, .int .u64 0])) 49⟩] u6 := M
 refine pl_put1 M (want_no rfl) rfl 47 _ _ rfl 0 g1 2 (by kernel_rfl) 3 49 (ls [.bool (v), .int .u64 (un h (onz ((128 - (wdt v)) + b))), .int .u64 l]) rfl (.int .u64 (un l (onz (((128 - (wdt v)) + b) - 64)))) (ls [.bool (v), .int .u64 (un h (onz ((128 - (wdt v)) + b))), .int .u64 (un l (onz (((128 - (wdt v)) + b) - 64)))]) (by kernel_rfl) inz47 (by decide) rfl rfl (put_ls _ 2 _ _ rfl) ?_
 intro u7 M
 replace M : Mem ⟨w, []⟩ [⟨g1, .cells (av 3 (ls [.bool (v), .int .u64 (un h (onz ((128 - (wdt v)) + b))), .int .u64 (un l (onz (((128 - (wdt v)) + b) - 64)))])) 49⟩, ⟨g2, .cells (av 3 (ls [.bool false, .int .u64 0, .int .u64 0])) 49⟩] u7 := M
 refine pl_nil ?_
 refine au_then ?_
 refine wp_seq ?_
 refine rg_lit ?_
 refine pl_load M (want_no rfl) (some 25) rfl 49 _ rfl 0 g1 0 (by kernel_rfl) 3 49 (ls [.bool (v), .int .u64 (un h (onz ((128 - (wdt v)) + b))), .int .u64 (un l (onz (((128 - (wdt v)) + b) - 64)))]) rfl 3 (ls [.bool (v), .int .u64 (un h (onz ((128 - (wdt v)) + b))), .int .u64 (un l (onz (((128 - (wdt v)) + b) - 64)))]) (fun j _ => by rw [Nat.zero_add]) (by decide) _ Tryz.underlying49 rfl inz49 ?_
 refine pl_put M (want_no rfl) rfl 49 _ _ rfl 1 g2 0 (by kernel_rfl) 3 49 (ls [.bool false, .int .u64 0, .int .u64 0]) rfl 3 (ls [.bool (v), .int .u64 (un h (onz ((128 - (wdt v)) + b))), .int .u64 (un l (onz (((128 - (wdt v)) + b) - 64)))]) (ls [.bool (v), .int .u64 (un h (onz ((128 - (wdt v)) + b))), .int .u64 (un l (onz (((128 - (wdt v)) + b) - 64)))]) (by kernel_rfl) inz49 (by decide) (one_ls _ rfl) (fun j hj => by rw [if_pos (by omega), Nat.sub_zero]) ?_
 intro u8 M
 replace M : Mem ⟨w, []⟩ [⟨g1, .cells (av 3 (ls [.bool (v), .int .u64 (un h (onz ((128 - (wdt v)) + b))), .int .u64 (un l (onz (((128 - (wdt v)) + b) - 64)))])) 49⟩, ⟨g2, .cells (av 3 (ls [.bool (v), .int .u64 (un h (onz ((128 - (wdt v)) + b))), .int .u64 (un l (onz (((128 - (wdt v)) + b) - 64)))])) 49⟩] u8 := M
 refine pl_nil ?_
 refine au_then ?_
 refine wp_ret ?_
 have e0 : (ctH v h b) = (un h (onz ((128 - (wdt v)) + b))) := rfl
 have e1 : (ctL v l b) = (un l (onz (((128 - (wdt v)) + b) - 64))) := rfl
 exact bodyPost_ret (v := .agg (av 3 (ls [.bool (v), .int .u64 (un h (onz ((128 - (wdt v)) + b))), .int .u64 (un l (onz (((128 - (wdt v)) + b) - 64)))]))) (results_cell_row Tryz.results112 _ _ g2 49 (av 3 (ls [.bool (v), .int .u64 (un h (onz ((128 - (wdt v)) + b))), .int .u64 (un l (onz (((128 - (wdt v)) + b) - 64)))])) (0, 0) _ (by kernel_rfl) (M.get 1 rfl) Tryz.underlying49 rfl (by rw [av_size]; exact inz49)) (by kernel_rfl) ⟨by simp only [e0, e1], below_grown M.old⟩
set_option maxRecDepth 100000 in
set_option maxHeartbeats 4000000 in
set_option linter.unusedSimpArgs false in
theorem c_MayPrefix (v : Bool) (h l : Int) (b : Int) (hb0 : 0 ≤ b) (hb1 : b ≤ 255) (w : World) (hL : Laid w)  :
  Calls Tryz.prog 78 #[.agg (av 4 (ls [.bool (v), .int .u64 h, .int .u64 l, .int .u8 b]))] w fun r w' => r = .returned (.bool (mP v h l b)) ∧ Below w.heap.size w w' := by
 go_enter Tryz.func78, Tryz.ntmps78
 have M := Mem.start hL
 refine wp_seq ?_
 refine rg_lit ?_
 refine pl_new M (want_no rfl) (some 1) rfl (.cells (av 4 (ls [.bool (v), .int .u64 h, .int .u64 l, .int .u8 b])) 51) (fun _ => by kernel_rfl) ?_
 intro g1 u1 M
 replace M : Mem ⟨w, []⟩ [⟨g1, .cells (av 4 (ls [.bool (v), .int .u64 h, .int .u64 l, .int .u8 b])) 51⟩] u1 := M
 refine pl_val (want_no rfl) (some 2) rfl (.bool false) (fun _ => by kernel_rfl) ?_
 refine pl_nil ?_
 refine au_then ?_
 refine wp_seq ?_
 refine rg_tail M 22 (by kernel_rfl) (by kernel_rfl) ?_
 simp only [List.take_succ_cons, List.take_zero]
 refine k_val (want_no rfl) (some 3) rfl (.pointer (some ⟨g1, 0, none⟩)) (fun _ => by kernel_rfl) ?_
 refine k_load M (want_no rfl) (some 4) rfl 49 _ rfl 0 g1 0 (by kernel_rfl) 4 51 (ls [.bool (v), .int .u64 h, .int .u64 l, .int .u8 b]) rfl 3 (ls [.bool (v), .int .u64 h, .int .u64 l]) (part_ls _ 0 3 _ rfl) (by decide) _ Tryz.underlying49 rfl inz49 ?_
 rcases Bool.eq_false_or_eq_true (mA v h l) with c0 | c0
 ·skip
  refine k_call M (want_no rfl) (some 5) rfl 110 #[.agg (av 3 (ls [.bool (v), .int .u64 h, .int .u64 l]))] (.bool true) (fun _ => by kernel_rfl) (fun w M => call_val (c_mayAddr v h l w M.laid) (congrArg Value.bool c0)) ?_
  refine k_val (want_no rfl) (some 6) rfl (.bool true) (fun _ => by kernel_rfl) ?_
  refine k_val (want_on 3 true rfl 6 rfl (by kernel_rfl)) (some 7) rfl (.pointer (some ⟨g1, 3, none⟩)) (fun _ => by kernel_rfl) ?_
  refine k_cell M (want_on 3 true rfl 6 rfl (by kernel_rfl)) (some 8) rfl 5 _ rfl g1 3 (by kernel_rfl) (.int .u8 b) (fun _ => by kernel_rfl) (fun w M => M.cell 0 rfl (by decide) rfl) ?_
  refine k_val (want_on 3 true rfl 6 rfl (by kernel_rfl)) (some 9) rfl (.int .i64 b) (fun w => Eq.trans (b := .ok (.value (.int .i64 (IntKind.wrap .i64 b))) w) (by kernel_rfl) (by rw [wrap64 (by omega) (by omega)])) ?_
  refine k_val (want_on 3 true rfl 6 rfl (by kernel_rfl)) (some 10) rfl (.pointer (some ⟨g1, 0, none⟩)) (fun _ => by kernel_rfl) ?_
  refine k_load M (want_on 3 true rfl 6 rfl (by kernel_rfl)) (some 11) rfl 49 _ rfl 0 g1 0 (by kernel_rfl) 4 51 (ls [.bool (v), .int .u64 h, .int .u64 l, .int .u8 b]) rfl 3 (ls [.bool (v), .int .u64 h, .int .u64 l]) (part_ls _ 0 3 _ rfl) (by decide) _ Tryz.underlying49 rfl inz49 ?_
  refine k_call M (want_on 3 true rfl 6 rfl (by kernel_rfl)) (some 12) rfl 111 #[.agg (av 3 (ls [.bool (v), .int .u64 h, .int .u64 l]))] (.int .i64 (wdt v)) (fun _ => by kernel_rfl) (fun w M => c_width v h l w M.laid) ?_
  by_cases c1 : (wdt v) < b
  ·skip
   refine k_val (want_on 3 true rfl 6 rfl (by kernel_rfl)) (some 13) rfl (.bool false) (fun w => Eq.trans (b := .ok (.value (.bool (decide (b ≤ (wdt v))))) w) (by kernel_rfl) (by rw [decide_eq_false (by omega)])) ?_
   refine k_val (want_no rfl) (some 14) rfl (.bool false) (fun _ => by kernel_rfl) ?_
   refine k_val (want_no rfl) (some 15) rfl (.bool false) (fun _ => by kernel_rfl) ?_
   refine k_skip (want_off 12 true rfl 15 rfl (by kernel_rfl)) (some 16) rfl ?_
   refine k_skip (want_off 12 true rfl 15 rfl (by kernel_rfl)) (some 17) rfl ?_
   refine k_skip (want_off 12 true rfl 15 rfl (by kernel_rfl)) (some 18) rfl ?_
   refine k_skip (want_off 12 true rfl 15 rfl (by kernel_rfl)) (some 19) rfl ?_
   refine k_skip (want_off 12 true rfl 15 rfl (by kernel_rfl)) (some 20) rfl ?_
   refine k_skip (want_off 12 true rfl 15 rfl (by kernel_rfl)) (some 21) rfl ?_
   refine k_skip (want_off 12 true rfl 15 rfl (by kernel_rfl)) (some 22) rfl ?_
   refine k_skip (want_off 12 true rfl 15 rfl (by kernel_rfl)) (some 23) rfl ?_
   refine k_val (want_no rfl) (some 24) rfl (.bool false) (fun _ => by kernel_rfl) ?_
   refine kl_nil ?_
   intro u2 M
   replace M : Mem ⟨w, []⟩ [⟨g1, .cells (av 4 (ls [.bool (v), .int .u64 h, .int .u64 l, .int .u8 b])) 51⟩] u2 := M
   refine pl_val (want_no rfl) (some 2) rfl (.bool false) (fun _ => by kernel_rfl) ?_
   refine pl_nil ?_
   refine au_then ?_
   refine wp_ret ?_
   have e0 : mP v h l b = false := by unfold mP; rw [c0, decide_eq_false (p := ¬ (wdt v) < b) (not_not_intro c1)] <;> rfl
   exact bodyPost_ret (v := .bool false) (results_tmp1 Tryz.results78 _ _ _ (by kernel_rfl)) (by kernel_rfl) ⟨by simp only [e0], below_grown M.old⟩
  ·skip
   refine k_val (want_on 3 true rfl 6 rfl (by kernel_rfl)) (some 13) rfl (.bool true) (fun w => Eq.trans (b := .ok (.value (.bool (decide (b ≤ (wdt v))))) w) (by kernel_rfl) (by rw [decide_eq_true (by omega)])) ?_
   refine k_val (want_no rfl) (some 14) rfl (.bool true) (fun _ => by kernel_rfl) ?_
   refine k_val (want_no rfl) (some 15) rfl (.bool true) (fun _ => by kernel_rfl) ?_
   refine k_val (want_on 12 true rfl 15 rfl (by kernel_rfl)) (some 16) rfl (.pointer (some ⟨g1, 0, none⟩)) (fun _ => by kernel_rfl) ?_
   refine k_load M (want_on 12 true rfl 15 rfl (by kernel_rfl)) (some 17) rfl 49 _ rfl 0 g1 0 (by kernel_rfl) 4 51 (ls [.bool (v), .int .u64 h, .int .u64 l, .int .u8 b]) rfl 3 (ls [.bool (v), .int .u64 h, .int .u64 l]) (part_ls _ 0 3 _ rfl) (by decide) _ Tryz.underlying49 rfl inz49 ?_
   refine k_val (want_on 12 true rfl 15 rfl (by kernel_rfl)) (some 18) rfl (.pointer (some ⟨g1, 3, none⟩)) (fun _ => by kernel_rfl) ?_
   refine k_cell M (want_on 12 true rfl 15 rfl (by kernel_rfl)) (some 19) rfl 5 _ rfl g1 3 (by kernel_rfl) (.int .u8 b) (fun _ => by kernel_rfl) (fun w M => M.cell 0 rfl (by decide) rfl) ?_
   refine k_call M (want_on 12 true rfl 15 rfl (by kernel_rfl)) (some 20) rfl 112 #[.agg (av 3 (ls [.bool (v), .int .u64 h, .int .u64 l])), .int .u8 b] (.agg (av 3 (ls [.bool (v), .int .u64 (ctH v h b), .int .u64 (ctL v l b)]))) (fun _ => by kernel_rfl) (fun w M => c_cut v h l b (by omega) (by omega) w M.laid) ?_
   refine k_val (want_on 12 true rfl 15 rfl (by kernel_rfl)) (some 21) rfl (.pointer (some ⟨g1, 0, none⟩)) (fun _ => by kernel_rfl) ?_
   refine k_load M (want_on 12 true rfl 15 rfl (by kernel_rfl)) (some 22) rfl 49 _ rfl 0 g1 0 (by kernel_rfl) 4 51 (ls [.bool (v), .int .u64 h, .int .u64 l, .int .u8 b]) rfl 3 (ls [.bool (v), .int .u64 h, .int .u64 l]) (part_ls _ 0 3 _ rfl) (by decide) _ Tryz.underlying49 rfl inz49 ?_
   by_cases c2 : v = v ∧ (ctH v h b) = h ∧ (ctL v l b) = l
   ·skip
    refine k_val (want_on 12 true rfl 15 rfl (by kernel_rfl)) (some 23) rfl (.bool true) (fun w => (eql24 v v (ctH v h b) h (ctL v l b) l _ _ rfl (by kernel_rfl) (by kernel_rfl) w).trans (by rw [decide_eq_true c2])) ?_
    refine k_val (want_no rfl) (some 24) rfl (.bool true) (fun _ => by kernel_rfl) ?_
    refine kl_nil ?_
    intro u2 M
    replace M : Mem ⟨w, []⟩ [⟨g1, .cells (av 4 (ls [.bool (v), .int .u64 h, .int .u64 l, .int .u8 b])) 51⟩] u2 := M
    refine pl_val (want_no rfl) (some 2) rfl (.bool true) (fun _ => by kernel_rfl) ?_
    refine pl_nil ?_
    refine au_then ?_
    refine wp_ret ?_
    have e0 : mP v h l b = true := by unfold mP; rw [c0, decide_eq_true (p := ¬ (wdt v) < b) c1, decide_eq_true c2] <;> rfl
    exact bodyPost_ret (v := .bool true) (results_tmp1 Tryz.results78 _ _ _ (by kernel_rfl)) (by kernel_rfl) ⟨by simp only [e0], below_grown M.old⟩
   ·skip
    refine k_val (want_on 12 true rfl 15 rfl (by kernel_rfl)) (some 23) rfl (.bool false) (fun w => (eql24 v v (ctH v h b) h (ctL v l b) l _ _ rfl (by kernel_rfl) (by kernel_rfl) w).trans (by rw [decide_eq_false c2])) ?_
    refine k_val (want_no rfl) (some 24) rfl (.bool false) (fun _ => by kernel_rfl) ?_
    refine kl_nil ?_
    intro u2 M
    replace M : Mem ⟨w, []⟩ [⟨g1, .cells (av 4 (ls [.bool (v), .int .u64 h, .int .u64 l, .int .u8 b])) 51⟩] u2 := M
    refine pl_val (want_no rfl) (some 2) rfl (.bool false) (fun _ => by kernel_rfl) ?_
    refine pl_nil ?_
    refine au_then ?_
    refine wp_ret ?_
    have e0 : mP v h l b = false := by unfold mP; rw [c0, decide_eq_true (p := ¬ (wdt v) < b) c1, decide_eq_false c2] <;> rfl
    exact bodyPost_ret (v := .bool false) (results_tmp1 Tryz.results78 _ _ _ (by kernel_rfl)) (by kernel_rfl) ⟨by simp only [e0], below_grown M.old⟩
 ·skip
  refine k_call M (want_no rfl) (some 5) rfl 110 #[.agg (av 3 (ls [.bool (v), .int .u64 h, .int .u64 l]))] (.bool false) (fun _ => by kernel_rfl) (fun w M => call_val (c_mayAddr v h l w M.laid) (congrArg Value.bool c0)) ?_
  refine k_val (want_no rfl) (some 6) rfl (.bool false) (fun _ => by kernel_rfl) ?_
  refine k_skip (want_off 3 true rfl 6 rfl (by kernel_rfl)) (some 7) rfl ?_
  refine k_skip (want_off 3 true rfl 6 rfl (by kernel_rfl)) (some 8) rfl ?_
  refine k_skip (want_off 3 true rfl 6 rfl (by kernel_rfl)) (some 9) rfl ?_
  refine k_skip (want_off 3 true rfl 6 rfl (by kernel_rfl)) (some 10) rfl ?_
  refine k_skip (want_off 3 true rfl 6 rfl (by kernel_rfl)) (some 11) rfl ?_
  refine k_skip (want_off 3 true rfl 6 rfl (by kernel_rfl)) (some 12) rfl ?_
  refine k_skip (want_off 3 true rfl 6 rfl (by kernel_rfl)) (some 13) rfl ?_
  refine k_val (want_no rfl) (some 14) rfl (.bool false) (fun _ => by kernel_rfl) ?_
  refine k_val (want_no rfl) (some 15) rfl (.bool false) (fun _ => by kernel_rfl) ?_
  refine k_skip (want_off 12 true rfl 15 rfl (by kernel_rfl)) (some 16) rfl ?_
  refine k_skip (want_off 12 true rfl 15 rfl (by kernel_rfl)) (some 17) rfl ?_
  refine k_skip (want_off 12 true rfl 15 rfl (by kernel_rfl)) (some 18) rfl ?_
  refine k_skip (want_off 12 true rfl 15 rfl (by kernel_rfl)) (some 19) rfl ?_
  refine k_skip (want_off 12 true rfl 15 rfl (by kernel_rfl)) (some 20) rfl ?_
  refine k_skip (want_off 12 true rfl 15 rfl (by kernel_rfl)) (some 21) rfl ?_
  refine k_skip (want_off 12 true rfl 15 rfl (by kernel_rfl)) (some 22) rfl ?_
  refine k_skip (want_off 12 true rfl 15 rfl (by kernel_rfl)) (some 23) rfl ?_
  refine k_val (want_no rfl) (some 24) rfl (.bool false) (fun _ => by kernel_rfl) ?_
  refine kl_nil ?_
  intro u2 M
  replace M : Mem ⟨w, []⟩ [⟨g1, .cells (av 4 (ls [.bool (v), .int .u64 h, .int .u64 l, .int .u8 b])) 51⟩] u2 := M
  refine pl_val (want_no rfl) (some 2) rfl (.bool false) (fun _ => by kernel_rfl) ?_
  refine pl_nil ?_
  refine au_then ?_
  refine wp_ret ?_
  have e0 : mP v h l b = false := by unfold mP; rw [c0] <;> rfl
  exact bodyPost_ret (v := .bool false) (results_tmp1 Tryz.results78 _ _ _ (by kernel_rfl)) (by kernel_rfl) ⟨by simp only [e0], below_grown M.old⟩
end Go.Proofs.YtbdgncndhnnjoaaGreatDoor.Ip

namespace Go.Proofs.YtbdgncndhnnjoaaGreatDoor.Ip
open Go.Shelf Go.RowKit
set_option maxRecDepth 100000
def repRen : Go.Shelf.Ren := ⟨fun | 119 => 203 | 129 => 152 | 137 => 202 | 138 => 134 | 143 => 135 | 144 => 209 | 145 => 163 | 146 => 62 | 151 => 201 | 152 => 178 | 153 => 139 | 156 => 44 | 161 => 137 | 165 => 80 | 166 => 43 | 169 => 48 | 171 => 82 | 195 => 169 | 197 => 170 | 205 => 227 | 217 => 197 | 218 => 171 | 219 => 172 | 220 => 191 | 221 => 101 | 224 => 199 | 225 => 198 | 226 => 179 | 227 => 174 | 228 => 180 | 231 => 173 | 233 => 175 | 235 => 176 | 240 => 79 | 241 => 114 | 243 => 117 | 245 => 213 | 246 => 158 | 260 => 196 | 266 => 214 | 267 => 200 | 268 => 133 | 276 => 113 | 277 => 154 | 279 => 222 | 280 => 223 | 281 => 224 | 282 => 225 | 283 => 187 | 284 => 188 | 285 => 189 | 286 => 190 | 287 => 212 | 314 => 215 | 316 => 226 | 317 => 205 | 318 => 206 | 319 => 207 | 320 => 208 | 321 => 220 | 322 => 221 | 337 => 216 | 338 => 217 | n => n, fun | 0 => 0 | 2 => 2 | 3 => 3 | 4 => 4 | 5 => 5 | 9 => 9 | 20 => 20 | 21 => 21 | 31 => 44 | 37 => 41 | 46 => 148 | 51 => 183 | 53 => 47 | 59 => 198 | 70 => 85 | 72 => 87 | 75 => 89 | 76 => 90 | 80 => 67 | 105 => 210 | 116 => 215 | 117 => 216 | 119 => 246 | 124 => 219 | 127 => 131 | 138 => 248 | 139 => 249 | 143 => 266 | 145 => 268 | 146 => 250 | 164 => 150 | 167 => 255 | 168 => 257 | 171 => 228 | 173 => 230 | 210 => 264 | 212 => 243 | 213 => 244 | 232 => 260 | 233 => 261 | n => n, fun | 1 => 2 | 3 => 4 | 4 => 5 | 15 => 8 | 16 => 9 | 17 => 3 | 18 => 6 | 19 => 7 | n => n⟩
theorem bd119 : Tryz.prog.funcs[repRen.f 119]? = some (Body.n119 repRen) := Tryz.func203.trans (congrArg some (by kernel_rfl))
theorem bd129 : Tryz.prog.funcs[repRen.f 129]? = some (Body.n129 repRen) := Tryz.func152.trans (congrArg some (by kernel_rfl))
theorem bd137 : Tryz.prog.funcs[repRen.f 137]? = some (Body.n137 repRen) := Tryz.func202.trans (congrArg some (by kernel_rfl))
theorem bd138 : Tryz.prog.funcs[repRen.f 138]? = some (Body.n138 repRen) := Tryz.func134.trans (congrArg some (by kernel_rfl))
theorem bd143 : Tryz.prog.funcs[repRen.f 143]? = some (Body.n143 repRen) := Tryz.func135.trans (congrArg some (by kernel_rfl))
theorem bd144 : Tryz.prog.funcs[repRen.f 144]? = some (Body.n144 repRen) := Tryz.func209.trans (congrArg some (by kernel_rfl))
theorem bd145 : Tryz.prog.funcs[repRen.f 145]? = some (Body.n145 repRen) := Tryz.func163.trans (congrArg some (by kernel_rfl))
theorem bd146 : Tryz.prog.funcs[repRen.f 146]? = some (Body.n146 repRen) := Tryz.func62.trans (congrArg some (by kernel_rfl))
theorem bd151 : Tryz.prog.funcs[repRen.f 151]? = some (Body.n151 repRen) := Tryz.func201.trans (congrArg some (by kernel_rfl))
theorem bd152 : Tryz.prog.funcs[repRen.f 152]? = some (Body.n152 repRen) := Tryz.func178.trans (congrArg some (by kernel_rfl))
theorem bd153 : Tryz.prog.funcs[repRen.f 153]? = some (Body.n153 repRen) := Tryz.func139.trans (congrArg some (by kernel_rfl))
theorem bd156 : Tryz.prog.funcs[repRen.f 156]? = some (Body.n156 repRen) := Tryz.func44.trans (congrArg some (by kernel_rfl))
theorem bd161 : Tryz.prog.funcs[repRen.f 161]? = some (Body.n161 repRen) := Tryz.func137.trans (congrArg some (by kernel_rfl))
theorem bd165 : Tryz.prog.funcs[repRen.f 165]? = some (Body.n165 repRen) := Tryz.func80.trans (congrArg some (by kernel_rfl))
theorem bd166 : Tryz.prog.funcs[repRen.f 166]? = some (Body.n166 repRen) := Tryz.func43.trans (congrArg some (by kernel_rfl))
theorem bd169 : Tryz.prog.funcs[repRen.f 169]? = some (Body.n169 repRen) := Tryz.func48.trans (congrArg some (by kernel_rfl))
theorem bd171 : Tryz.prog.funcs[repRen.f 171]? = some (Body.n171 repRen) := Tryz.func82.trans (congrArg some (by kernel_rfl))
theorem bd195 : Tryz.prog.funcs[repRen.f 195]? = some (Body.n195 repRen) := Tryz.func169.trans (congrArg some (by kernel_rfl))
theorem bd197 : Tryz.prog.funcs[repRen.f 197]? = some (Body.n197 repRen) := Tryz.func170.trans (congrArg some (by kernel_rfl))
theorem bd205 : Tryz.prog.funcs[repRen.f 205]? = some (Body.n205 repRen) := Tryz.func227.trans (congrArg some (by kernel_rfl))
theorem bd217 : Tryz.prog.funcs[repRen.f 217]? = some (Body.n217 repRen) := Tryz.func197.trans (congrArg some (by kernel_rfl))
theorem bd218 : Tryz.prog.funcs[repRen.f 218]? = some (Body.n218 repRen) := Tryz.func171.trans (congrArg some (by kernel_rfl))
theorem bd219 : Tryz.prog.funcs[repRen.f 219]? = some (Body.n219 repRen) := Tryz.func172.trans (congrArg some (by kernel_rfl))
theorem bd220 : Tryz.prog.funcs[repRen.f 220]? = some (Body.n220 repRen) := Tryz.func191.trans (congrArg some (by kernel_rfl))
theorem bd221 : Tryz.prog.funcs[repRen.f 221]? = some (Body.n221 repRen) := Tryz.func101.trans (congrArg some (by kernel_rfl))
theorem bd224 : Tryz.prog.funcs[repRen.f 224]? = some (Body.n224 repRen) := Tryz.func199.trans (congrArg some (by kernel_rfl))
theorem bd225 : Tryz.prog.funcs[repRen.f 225]? = some (Body.n225 repRen) := Tryz.func198.trans (congrArg some (by kernel_rfl))
theorem bd226 : Tryz.prog.funcs[repRen.f 226]? = some (Body.n226 repRen) := Tryz.func179.trans (congrArg some (by kernel_rfl))
theorem bd227 : Tryz.prog.funcs[repRen.f 227]? = some (Body.n227 repRen) := Tryz.func174.trans (congrArg some (by kernel_rfl))
theorem bd228 : Tryz.prog.funcs[repRen.f 228]? = some (Body.n228 repRen) := Tryz.func180.trans (congrArg some (by kernel_rfl))
theorem bd231 : Tryz.prog.funcs[repRen.f 231]? = some (Body.n231 repRen) := Tryz.func173.trans (congrArg some (by kernel_rfl))
theorem bd233 : Tryz.prog.funcs[repRen.f 233]? = some (Body.n233 repRen) := Tryz.func175.trans (congrArg some (by kernel_rfl))
theorem bd235 : Tryz.prog.funcs[repRen.f 235]? = some (Body.n235 repRen) := Tryz.func176.trans (congrArg some (by kernel_rfl))
theorem bd240 : Tryz.prog.funcs[repRen.f 240]? = some (Body.n240 repRen) := Tryz.func79.trans (congrArg some (by kernel_rfl))
theorem bd241 : Tryz.prog.funcs[repRen.f 241]? = some (Body.n241 repRen) := Tryz.func114.trans (congrArg some (by kernel_rfl))
theorem bd243 : Tryz.prog.funcs[repRen.f 243]? = some (Body.n243 repRen) := Tryz.func117.trans (congrArg some (by kernel_rfl))
theorem bd245 : Tryz.prog.funcs[repRen.f 245]? = some (Body.n245 repRen) := Tryz.func213.trans (congrArg some (by kernel_rfl))
theorem bd246 : Tryz.prog.funcs[repRen.f 246]? = some (Body.n246 repRen) := Tryz.func158.trans (congrArg some (by kernel_rfl))
theorem bd260 : Tryz.prog.funcs[repRen.f 260]? = some (Body.n260 repRen) := Tryz.func196.trans (congrArg some (by kernel_rfl))
theorem bd266 : Tryz.prog.funcs[repRen.f 266]? = some (Body.n266 repRen) := Tryz.func214.trans (congrArg some (by kernel_rfl))
theorem bd267 : Tryz.prog.funcs[repRen.f 267]? = some (Body.n267 repRen) := Tryz.func200.trans (congrArg some (by kernel_rfl))
theorem bd268 : Tryz.prog.funcs[repRen.f 268]? = some (Body.n268 repRen) := Tryz.func133.trans (congrArg some (by kernel_rfl))
theorem bd276 : Tryz.prog.funcs[repRen.f 276]? = some (Body.n276 repRen) := Tryz.func113.trans (congrArg some (by kernel_rfl))
theorem bd277 : Tryz.prog.funcs[repRen.f 277]? = some (Body.n277 repRen) := Tryz.func154.trans (congrArg some (by kernel_rfl))
theorem bd279 : Tryz.prog.funcs[repRen.f 279]? = some (Body.n279 repRen) := Tryz.func222.trans (congrArg some (by kernel_rfl))
theorem bd280 : Tryz.prog.funcs[repRen.f 280]? = some (Body.n280 repRen) := Tryz.func223.trans (congrArg some (by kernel_rfl))
theorem bd281 : Tryz.prog.funcs[repRen.f 281]? = some (Body.n281 repRen) := Tryz.func224.trans (congrArg some (by kernel_rfl))
theorem bd282 : Tryz.prog.funcs[repRen.f 282]? = some (Body.n282 repRen) := Tryz.func225.trans (congrArg some (by kernel_rfl))
theorem bd283 : Tryz.prog.funcs[repRen.f 283]? = some (Body.n283 repRen) := Tryz.func187.trans (congrArg some (by kernel_rfl))
theorem bd284 : Tryz.prog.funcs[repRen.f 284]? = some (Body.n284 repRen) := Tryz.func188.trans (congrArg some (by kernel_rfl))
theorem bd285 : Tryz.prog.funcs[repRen.f 285]? = some (Body.n285 repRen) := Tryz.func189.trans (congrArg some (by kernel_rfl))
theorem bd286 : Tryz.prog.funcs[repRen.f 286]? = some (Body.n286 repRen) := Tryz.func190.trans (congrArg some (by kernel_rfl))
theorem bd287 : Tryz.prog.funcs[repRen.f 287]? = some (Body.n287 repRen) := Tryz.func212.trans (congrArg some (by kernel_rfl))
theorem bd314 : Tryz.prog.funcs[repRen.f 314]? = some (Body.n314 repRen) := Tryz.func215.trans (congrArg some (by kernel_rfl))
theorem bd316 : Tryz.prog.funcs[repRen.f 316]? = some (Body.n316 repRen) := Tryz.func226.trans (congrArg some (by kernel_rfl))
theorem bd317 : Tryz.prog.funcs[repRen.f 317]? = some (Body.n317 repRen) := Tryz.func205.trans (congrArg some (by kernel_rfl))
theorem bd318 : Tryz.prog.funcs[repRen.f 318]? = some (Body.n318 repRen) := Tryz.func206.trans (congrArg some (by kernel_rfl))
theorem bd319 : Tryz.prog.funcs[repRen.f 319]? = some (Body.n319 repRen) := Tryz.func207.trans (congrArg some (by kernel_rfl))
theorem bd320 : Tryz.prog.funcs[repRen.f 320]? = some (Body.n320 repRen) := Tryz.func208.trans (congrArg some (by kernel_rfl))
theorem bd321 : Tryz.prog.funcs[repRen.f 321]? = some (Body.n321 repRen) := Tryz.func220.trans (congrArg some (by kernel_rfl))
theorem bd322 : Tryz.prog.funcs[repRen.f 322]? = some (Body.n322 repRen) := Tryz.func221.trans (congrArg some (by kernel_rfl))
theorem bd337 : Tryz.prog.funcs[repRen.f 337]? = some (Body.n337 repRen) := Tryz.func216.trans (congrArg some (by kernel_rfl))
theorem bd338 : Tryz.prog.funcs[repRen.f 338]? = some (Body.n338 repRen) := Tryz.func217.trans (congrArg some (by kernel_rfl))
theorem lays287 : Go.Proofs.Lays.n287 Tryz.prog repRen := {
 mixed := by kernel_rfl
 f287 := bd287
 f321 := bd321
 f322 := bd322
 t0 := Tryz.underlying0
 a0 := Tryz.isAgg0
 z0 := Tryz.sizeOf0
 v0 := Tryz.zeroValue0
 t3 := Tryz.underlying3
 a3 := Tryz.isAgg3
 z3 := Tryz.sizeOf3
 v3 := Tryz.zeroValue3
 t4 := Tryz.underlying4
 a4 := Tryz.isAgg4
 z4 := Tryz.sizeOf4
 v4 := Tryz.zeroValue4
 t5 := Tryz.underlying5
 a5 := Tryz.isAgg5
 z5 := Tryz.sizeOf5
 v5 := Tryz.zeroValue5
 t9 := Tryz.underlying9
 a9 := Tryz.isAgg9
 z9 := Tryz.sizeOf9
 v9 := Tryz.zeroValue9
 t21 := Tryz.underlying21
 a21 := Tryz.isAgg21
 z21 := Tryz.sizeOf21
 v21 := Tryz.zeroValue21
 t37 := Tryz.underlying41
 a37 := Tryz.isAgg41
 z37 := Tryz.sizeOf41
 v37 := Tryz.zeroValue41
 t46 := Tryz.underlying148
 a46 := Tryz.isAgg148
 z46 := Tryz.sizeOf148
 v46 := Tryz.zeroValue148
 t53 := Tryz.underlying47
 a53 := Tryz.isAgg47
 z53 := Tryz.sizeOf47
 v53 := Tryz.zeroValue47
 t75 := Tryz.underlying89
 a75 := Tryz.isAgg89
 z75 := Tryz.sizeOf89
 v75 := Tryz.zeroValue89
 t167 := Tryz.underlying255
 a167 := Tryz.isAgg255
 z167 := Tryz.sizeOf255
 v167 := Tryz.zeroValue255 }
theorem lays161 : Go.Proofs.Lays.n161 Tryz.prog repRen := {
 mixed := by kernel_rfl
 f119 := bd119
 f137 := bd137
 f151 := bd151
 f152 := bd152
 f161 := bd161
 f197 := bd197
 f217 := bd217
 f224 := bd224
 f225 := bd225
 f227 := bd227
 f228 := bd228
 f231 := bd231
 f233 := bd233
 f235 := bd235
 f260 := bd260
 f266 := bd266
 t0 := Tryz.underlying0
 a0 := Tryz.isAgg0
 z0 := Tryz.sizeOf0
 v0 := Tryz.zeroValue0
 t3 := Tryz.underlying3
 a3 := Tryz.isAgg3
 z3 := Tryz.sizeOf3
 v3 := Tryz.zeroValue3
 t4 := Tryz.underlying4
 a4 := Tryz.isAgg4
 z4 := Tryz.sizeOf4
 v4 := Tryz.zeroValue4
 t5 := Tryz.underlying5
 a5 := Tryz.isAgg5
 z5 := Tryz.sizeOf5
 v5 := Tryz.zeroValue5
 t9 := Tryz.underlying9
 a9 := Tryz.isAgg9
 z9 := Tryz.sizeOf9
 v9 := Tryz.zeroValue9
 t21 := Tryz.underlying21
 a21 := Tryz.isAgg21
 z21 := Tryz.sizeOf21
 v21 := Tryz.zeroValue21
 t46 := Tryz.underlying148
 a46 := Tryz.isAgg148
 z46 := Tryz.sizeOf148
 v46 := Tryz.zeroValue148
 t105 := Tryz.underlying210
 a105 := Tryz.isAgg210
 z105 := Tryz.sizeOf210
 v105 := Tryz.zeroValue210
 t116 := Tryz.underlying215
 a116 := Tryz.isAgg215
 z116 := Tryz.sizeOf215
 t117 := Tryz.underlying216
 a117 := Tryz.isAgg216
 z117 := Tryz.sizeOf216
 v117 := Tryz.zeroValue216
 t119 := Tryz.underlying246
 a119 := Tryz.isAgg246
 z119 := Tryz.sizeOf246
 t124 := Tryz.underlying219
 a124 := Tryz.isAgg219
 z124 := Tryz.sizeOf219
 v124 := Tryz.zeroValue219
 t138 := Tryz.underlying248
 a138 := Tryz.isAgg248
 z138 := Tryz.sizeOf248
 v138 := Tryz.zeroValue248
 t139 := Tryz.underlying249
 a139 := Tryz.isAgg249
 z139 := Tryz.sizeOf249
 v139 := Tryz.zeroValue249
 g3 := by kernel_rfl
 g4 := by kernel_rfl }
theorem lays153 : Go.Proofs.Lays.n153 Tryz.prog repRen := {
 mixed := by kernel_rfl
 f119 := bd119
 f137 := bd137
 f152 := bd152
 f153 := bd153
 f217 := bd217
 f224 := bd224
 f225 := bd225
 f226 := bd226
 f227 := bd227
 f228 := bd228
 f266 := bd266
 t0 := Tryz.underlying0
 a0 := Tryz.isAgg0
 z0 := Tryz.sizeOf0
 v0 := Tryz.zeroValue0
 t3 := Tryz.underlying3
 a3 := Tryz.isAgg3
 z3 := Tryz.sizeOf3
 v3 := Tryz.zeroValue3
 t4 := Tryz.underlying4
 a4 := Tryz.isAgg4
 z4 := Tryz.sizeOf4
 v4 := Tryz.zeroValue4
 t5 := Tryz.underlying5
 a5 := Tryz.isAgg5
 z5 := Tryz.sizeOf5
 v5 := Tryz.zeroValue5
 t9 := Tryz.underlying9
 a9 := Tryz.isAgg9
 z9 := Tryz.sizeOf9
 v9 := Tryz.zeroValue9
 t21 := Tryz.underlying21
 a21 := Tryz.isAgg21
 z21 := Tryz.sizeOf21
 v21 := Tryz.zeroValue21
 t46 := Tryz.underlying148
 a46 := Tryz.isAgg148
 z46 := Tryz.sizeOf148
 v46 := Tryz.zeroValue148
 t116 := Tryz.underlying215
 a116 := Tryz.isAgg215
 z116 := Tryz.sizeOf215
 t117 := Tryz.underlying216
 a117 := Tryz.isAgg216
 z117 := Tryz.sizeOf216
 v117 := Tryz.zeroValue216
 t124 := Tryz.underlying219
 a124 := Tryz.isAgg219
 z124 := Tryz.sizeOf219
 v124 := Tryz.zeroValue219 }
theorem lays145 : Go.Proofs.Lays.n145 Tryz.prog repRen := {
 mixed := by kernel_rfl
 f145 := bd145
 f217 := bd217
 f219 := bd219
 f220 := bd220
 f224 := bd224
 f225 := bd225
 f266 := bd266
 f267 := bd267
 f314 := bd314
 t3 := Tryz.underlying3
 a3 := Tryz.isAgg3
 z3 := Tryz.sizeOf3
 v3 := Tryz.zeroValue3
 t4 := Tryz.underlying4
 a4 := Tryz.isAgg4
 z4 := Tryz.sizeOf4
 v4 := Tryz.zeroValue4
 t5 := Tryz.underlying5
 a5 := Tryz.isAgg5
 z5 := Tryz.sizeOf5
 v5 := Tryz.zeroValue5
 t9 := Tryz.underlying9
 a9 := Tryz.isAgg9
 z9 := Tryz.sizeOf9
 v9 := Tryz.zeroValue9
 t46 := Tryz.underlying148
 a46 := Tryz.isAgg148
 z46 := Tryz.sizeOf148
 v46 := Tryz.zeroValue148
 t51 := Tryz.underlying183
 a51 := Tryz.isAgg183
 z51 := Tryz.sizeOf183
 v51 := Tryz.zeroValue183
 t59 := Tryz.underlying198
 a59 := Tryz.isAgg198
 z59 := Tryz.sizeOf198
 v59 := Tryz.zeroValue198
 t146 := Tryz.underlying250
 a146 := Tryz.isAgg250
 z146 := Tryz.sizeOf250
 v146 := Tryz.zeroValue250
 g1 := by kernel_rfl }
theorem lays144 : Go.Proofs.Lays.n144 Tryz.prog repRen := {
 mixed := by kernel_rfl
 f143 := bd143
 f144 := bd144
 f217 := bd217
 f219 := bd219
 f224 := bd224
 f225 := bd225
 f266 := bd266
 f267 := bd267
 f314 := bd314
 t3 := Tryz.underlying3
 a3 := Tryz.isAgg3
 z3 := Tryz.sizeOf3
 v3 := Tryz.zeroValue3
 t4 := Tryz.underlying4
 a4 := Tryz.isAgg4
 z4 := Tryz.sizeOf4
 v4 := Tryz.zeroValue4
 t5 := Tryz.underlying5
 a5 := Tryz.isAgg5
 z5 := Tryz.sizeOf5
 v5 := Tryz.zeroValue5
 t9 := Tryz.underlying9
 a9 := Tryz.isAgg9
 z9 := Tryz.sizeOf9
 v9 := Tryz.zeroValue9
 t46 := Tryz.underlying148
 a46 := Tryz.isAgg148
 z46 := Tryz.sizeOf148
 v46 := Tryz.zeroValue148
 t51 := Tryz.underlying183
 a51 := Tryz.isAgg183
 z51 := Tryz.sizeOf183
 v51 := Tryz.zeroValue183
 t146 := Tryz.underlying250
 a146 := Tryz.isAgg250
 z146 := Tryz.sizeOf250
 v146 := Tryz.zeroValue250
 g1 := by kernel_rfl }
theorem lays146 : Go.Proofs.Lays.n146 Tryz.prog repRen := {
 mixed := by kernel_rfl
 f138 := bd138
 f143 := bd143
 f146 := bd146
 f195 := bd195
 f197 := bd197
 f217 := bd217
 f218 := bd218
 f219 := bd219
 f221 := bd221
 f224 := bd224
 f225 := bd225
 f260 := bd260
 f266 := bd266
 f267 := bd267
 f268 := bd268
 f314 := bd314
 t0 := Tryz.underlying0
 a0 := Tryz.isAgg0
 z0 := Tryz.sizeOf0
 v0 := Tryz.zeroValue0
 t3 := Tryz.underlying3
 a3 := Tryz.isAgg3
 z3 := Tryz.sizeOf3
 v3 := Tryz.zeroValue3
 t4 := Tryz.underlying4
 a4 := Tryz.isAgg4
 z4 := Tryz.sizeOf4
 v4 := Tryz.zeroValue4
 t5 := Tryz.underlying5
 a5 := Tryz.isAgg5
 z5 := Tryz.sizeOf5
 v5 := Tryz.zeroValue5
 t9 := Tryz.underlying9
 a9 := Tryz.isAgg9
 z9 := Tryz.sizeOf9
 v9 := Tryz.zeroValue9
 t21 := Tryz.underlying21
 a21 := Tryz.isAgg21
 z21 := Tryz.sizeOf21
 v21 := Tryz.zeroValue21
 t31 := Tryz.underlying44
 a31 := Tryz.isAgg44
 z31 := Tryz.sizeOf44
 v31 := Tryz.zeroValue44
 t46 := Tryz.underlying148
 a46 := Tryz.isAgg148
 z46 := Tryz.sizeOf148
 v46 := Tryz.zeroValue148
 t51 := Tryz.underlying183
 a51 := Tryz.isAgg183
 z51 := Tryz.sizeOf183
 v51 := Tryz.zeroValue183
 t105 := Tryz.underlying210
 a105 := Tryz.isAgg210
 z105 := Tryz.sizeOf210
 v105 := Tryz.zeroValue210
 t119 := Tryz.underlying246
 a119 := Tryz.isAgg246
 z119 := Tryz.sizeOf246
 t138 := Tryz.underlying248
 a138 := Tryz.isAgg248
 z138 := Tryz.sizeOf248
 v138 := Tryz.zeroValue248
 t139 := Tryz.underlying249
 a139 := Tryz.isAgg249
 z139 := Tryz.sizeOf249
 v139 := Tryz.zeroValue249
 t146 := Tryz.underlying250
 a146 := Tryz.isAgg250
 z146 := Tryz.sizeOf250
 v146 := Tryz.zeroValue250
 g1 := by kernel_rfl
 g3 := by kernel_rfl
 g4 := by kernel_rfl }
theorem lays156 : Go.Proofs.Lays.n156 Tryz.prog repRen := {
 mixed := by kernel_rfl
 f156 := bd156
 f165 := bd165
 f166 := bd166
 f169 := bd169
 f240 := bd240
 f241 := bd241
 f276 := bd276
 f277 := bd277
 t0 := Tryz.underlying0
 a0 := Tryz.isAgg0
 z0 := Tryz.sizeOf0
 v0 := Tryz.zeroValue0
 t3 := Tryz.underlying3
 a3 := Tryz.isAgg3
 z3 := Tryz.sizeOf3
 v3 := Tryz.zeroValue3
 t4 := Tryz.underlying4
 a4 := Tryz.isAgg4
 z4 := Tryz.sizeOf4
 v4 := Tryz.zeroValue4
 t9 := Tryz.underlying9
 a9 := Tryz.isAgg9
 z9 := Tryz.sizeOf9
 v9 := Tryz.zeroValue9
 t20 := Tryz.underlying20
 a20 := Tryz.isAgg20
 z20 := Tryz.sizeOf20
 v20 := Tryz.zeroValue20
 t31 := Tryz.underlying44
 a31 := Tryz.isAgg44
 z31 := Tryz.sizeOf44
 v31 := Tryz.zeroValue44
 t37 := Tryz.underlying41
 a37 := Tryz.isAgg41
 z37 := Tryz.sizeOf41
 v37 := Tryz.zeroValue41
 t70 := Tryz.underlying85
 a70 := Tryz.isAgg85
 z70 := Tryz.sizeOf85
 v70 := Tryz.zeroValue85
 t72 := Tryz.underlying87
 a72 := Tryz.isAgg87
 z72 := Tryz.sizeOf87
 v72 := Tryz.zeroValue87
 t75 := Tryz.underlying89
 a75 := Tryz.isAgg89
 z75 := Tryz.sizeOf89
 v75 := Tryz.zeroValue89
 t76 := Tryz.underlying90
 a76 := Tryz.isAgg90
 z76 := Tryz.sizeOf90
 v76 := Tryz.zeroValue90
 t127 := Tryz.underlying131
 a127 := Tryz.isAgg131
 z127 := Tryz.sizeOf131
 v127 := Tryz.zeroValue131
 t164 := Tryz.underlying150
 a164 := Tryz.isAgg150
 z164 := Tryz.sizeOf150
 v164 := Tryz.zeroValue150 }
theorem laysM171 : Go.Proofs.LaysM.n171 Tryz.prog repRen := {
 mixed := by kernel_rfl
 f129 := bd129
 f171 := bd171
 f243 := bd243
 f246 := bd246
 f283 := bd283
 f284 := bd284
 f285 := bd285
 f286 := bd286
 f317 := bd317
 f318 := bd318
 f319 := bd319
 f320 := bd320
 f337 := bd337
 f338 := bd338
 t0 := Tryz.underlying0
 a0 := Tryz.isAgg0
 z0 := Tryz.sizeOf0
 v0 := Tryz.zeroValue0
 t2 := Tryz.underlying2
 a2 := Tryz.isAgg2
 z2 := Tryz.sizeOf2
 v2 := Tryz.zeroValue2
 t3 := Tryz.underlying3
 a3 := Tryz.isAgg3
 z3 := Tryz.sizeOf3
 v3 := Tryz.zeroValue3
 t4 := Tryz.underlying4
 a4 := Tryz.isAgg4
 z4 := Tryz.sizeOf4
 v4 := Tryz.zeroValue4
 t5 := Tryz.underlying5
 a5 := Tryz.isAgg5
 z5 := Tryz.sizeOf5
 v5 := Tryz.zeroValue5
 t9 := Tryz.underlying9
 a9 := Tryz.isAgg9
 z9 := Tryz.sizeOf9
 v9 := Tryz.zeroValue9
 t20 := Tryz.underlying20
 a20 := Tryz.isAgg20
 z20 := Tryz.sizeOf20
 v20 := Tryz.zeroValue20
 t37 := Tryz.underlying41
 a37 := Tryz.isAgg41
 z37 := Tryz.sizeOf41
 v37 := Tryz.zeroValue41
 t46 := Tryz.underlying148
 a46 := Tryz.isAgg148
 z46 := Tryz.sizeOf148
 v46 := Tryz.zeroValue148
 t51 := Tryz.underlying183
 a51 := Tryz.isAgg183
 z51 := Tryz.sizeOf183
 v51 := Tryz.zeroValue183
 t53 := Tryz.underlying47
 a53 := Tryz.isAgg47
 z53 := Tryz.sizeOf47
 v53 := Tryz.zeroValue47
 t171 := Tryz.underlying228
 a171 := Tryz.isAgg228
 z171 := Tryz.sizeOf228
 v171 := Tryz.zeroValue228
 t173 := Tryz.underlying230
 a173 := Tryz.isAgg230
 z173 := Tryz.sizeOf230
 v173 := Tryz.zeroValue230
 t212 := Tryz.underlying243
 a212 := Tryz.isAgg243
 z212 := Tryz.sizeOf243
 v212 := Tryz.zeroValue243
 t213 := Tryz.underlying244
 a213 := Tryz.isAgg244
 z213 := Tryz.sizeOf244
 t232 := Tryz.underlying260
 a232 := Tryz.isAgg260
 z232 := Tryz.sizeOf260
 v232 := Tryz.zeroValue260
 t233 := Tryz.underlying261
 a233 := Tryz.isAgg261
 z233 := Tryz.sizeOf261
 v233 := Tryz.zeroValue261
 g17 := by kernel_rfl
 g18 := by kernel_rfl
 g19 := by kernel_rfl
 i0 := by kernel_rfl
 i2 := by kernel_rfl
 i3 := by kernel_rfl
 i4 := by kernel_rfl
 i5 := by kernel_rfl
 i9 := by kernel_rfl
 i20 := by kernel_rfl
 i37 := by kernel_rfl
 i46 := by kernel_rfl
 i51 := by kernel_rfl
 i53 := by kernel_rfl
 i171 := by kernel_rfl
 i173 := by kernel_rfl
 i212 := by kernel_rfl
 i232 := by kernel_rfl
 i233 := by kernel_rfl
 m17 := by kernel_rfl
 m18 := by kernel_rfl
 m19 := by kernel_rfl }
theorem laysM284 : Go.Proofs.LaysM.n284 Tryz.prog repRen := {
 mixed := by kernel_rfl
 f129 := bd129
 f284 := bd284
 f317 := bd317
 f318 := bd318
 t0 := Tryz.underlying0
 a0 := Tryz.isAgg0
 z0 := Tryz.sizeOf0
 v0 := Tryz.zeroValue0
 t3 := Tryz.underlying3
 a3 := Tryz.isAgg3
 z3 := Tryz.sizeOf3
 v3 := Tryz.zeroValue3
 t4 := Tryz.underlying4
 a4 := Tryz.isAgg4
 z4 := Tryz.sizeOf4
 v4 := Tryz.zeroValue4
 t5 := Tryz.underlying5
 a5 := Tryz.isAgg5
 z5 := Tryz.sizeOf5
 v5 := Tryz.zeroValue5
 t9 := Tryz.underlying9
 a9 := Tryz.isAgg9
 z9 := Tryz.sizeOf9
 v9 := Tryz.zeroValue9
 t46 := Tryz.underlying148
 a46 := Tryz.isAgg148
 z46 := Tryz.sizeOf148
 v46 := Tryz.zeroValue148
 t53 := Tryz.underlying47
 a53 := Tryz.isAgg47
 z53 := Tryz.sizeOf47
 v53 := Tryz.zeroValue47
 t212 := Tryz.underlying243
 a212 := Tryz.isAgg243
 z212 := Tryz.sizeOf243
 v212 := Tryz.zeroValue243
 g17 := by kernel_rfl
 i0 := by kernel_rfl
 i3 := by kernel_rfl
 i4 := by kernel_rfl
 i5 := by kernel_rfl
 i9 := by kernel_rfl
 i46 := by kernel_rfl
 i53 := by kernel_rfl
 i212 := by kernel_rfl
 m17 := by kernel_rfl }
theorem lays283 : Go.Proofs.Lays.n283 Tryz.prog repRen := {
 mixed := by kernel_rfl
 f283 := bd283
 t3 := Tryz.underlying3
 a3 := Tryz.isAgg3
 z3 := Tryz.sizeOf3
 v3 := Tryz.zeroValue3
 t4 := Tryz.underlying4
 a4 := Tryz.isAgg4
 z4 := Tryz.sizeOf4
 v4 := Tryz.zeroValue4
 t9 := Tryz.underlying9
 a9 := Tryz.isAgg9
 z9 := Tryz.sizeOf9
 v9 := Tryz.zeroValue9 }
theorem lays285 : Go.Proofs.Lays.n285 Tryz.prog repRen := {
 mixed := by kernel_rfl
 f285 := bd285
 t0 := Tryz.underlying0
 a0 := Tryz.isAgg0
 z0 := Tryz.sizeOf0
 v0 := Tryz.zeroValue0
 t3 := Tryz.underlying3
 a3 := Tryz.isAgg3
 z3 := Tryz.sizeOf3
 v3 := Tryz.zeroValue3
 t4 := Tryz.underlying4
 a4 := Tryz.isAgg4
 z4 := Tryz.sizeOf4
 v4 := Tryz.zeroValue4
 t5 := Tryz.underlying5
 a5 := Tryz.isAgg5
 z5 := Tryz.sizeOf5
 v5 := Tryz.zeroValue5
 t9 := Tryz.underlying9
 a9 := Tryz.isAgg9
 z9 := Tryz.sizeOf9
 v9 := Tryz.zeroValue9
 t37 := Tryz.underlying41
 a37 := Tryz.isAgg41
 z37 := Tryz.sizeOf41
 v37 := Tryz.zeroValue41
 t51 := Tryz.underlying183
 a51 := Tryz.isAgg183
 z51 := Tryz.sizeOf183
 v51 := Tryz.zeroValue183
 t53 := Tryz.underlying47
 a53 := Tryz.isAgg47
 z53 := Tryz.sizeOf47
 v53 := Tryz.zeroValue47 }
theorem laysC245 : Go.Proofs.LaysC.n245 Tryz.prog repRen := {
 mixed := by kernel_rfl
 f129 := bd129
 f171 := bd171
 f205 := bd205
 f243 := bd243
 f245 := bd245
 f246 := bd246
 f279 := bd279
 f280 := bd280
 f281 := bd281
 f282 := bd282
 f283 := bd283
 f284 := bd284
 f285 := bd285
 f286 := bd286
 f316 := bd316
 f317 := bd317
 f318 := bd318
 f319 := bd319
 f320 := bd320
 f337 := bd337
 f338 := bd338
 t0 := Tryz.underlying0
 a0 := Tryz.isAgg0
 z0 := Tryz.sizeOf0
 v0 := Tryz.zeroValue0
 t2 := Tryz.underlying2
 a2 := Tryz.isAgg2
 z2 := Tryz.sizeOf2
 v2 := Tryz.zeroValue2
 t3 := Tryz.underlying3
 a3 := Tryz.isAgg3
 z3 := Tryz.sizeOf3
 v3 := Tryz.zeroValue3
 t4 := Tryz.underlying4
 a4 := Tryz.isAgg4
 z4 := Tryz.sizeOf4
 v4 := Tryz.zeroValue4
 t5 := Tryz.underlying5
 a5 := Tryz.isAgg5
 z5 := Tryz.sizeOf5
 v5 := Tryz.zeroValue5
 t9 := Tryz.underlying9
 a9 := Tryz.isAgg9
 z9 := Tryz.sizeOf9
 v9 := Tryz.zeroValue9
 t20 := Tryz.underlying20
 a20 := Tryz.isAgg20
 z20 := Tryz.sizeOf20
 v20 := Tryz.zeroValue20
 t37 := Tryz.underlying41
 a37 := Tryz.isAgg41
 z37 := Tryz.sizeOf41
 v37 := Tryz.zeroValue41
 t46 := Tryz.underlying148
 a46 := Tryz.isAgg148
 z46 := Tryz.sizeOf148
 v46 := Tryz.zeroValue148
 t51 := Tryz.underlying183
 a51 := Tryz.isAgg183
 z51 := Tryz.sizeOf183
 v51 := Tryz.zeroValue183
 t53 := Tryz.underlying47
 a53 := Tryz.isAgg47
 z53 := Tryz.sizeOf47
 v53 := Tryz.zeroValue47
 t75 := Tryz.underlying89
 a75 := Tryz.isAgg89
 z75 := Tryz.sizeOf89
 v75 := Tryz.zeroValue89
 t127 := Tryz.underlying131
 a127 := Tryz.isAgg131
 z127 := Tryz.sizeOf131
 v127 := Tryz.zeroValue131
 t143 := Tryz.underlying266
 a143 := Tryz.isAgg266
 z143 := Tryz.sizeOf266
 v143 := Tryz.zeroValue266
 t145 := Tryz.underlying268
 a145 := Tryz.isAgg268
 z145 := Tryz.sizeOf268
 v145 := Tryz.zeroValue268
 t167 := Tryz.underlying255
 a167 := Tryz.isAgg255
 z167 := Tryz.sizeOf255
 v167 := Tryz.zeroValue255
 t168 := Tryz.underlying257
 a168 := Tryz.isAgg257
 z168 := Tryz.sizeOf257
 v168 := Tryz.zeroValue257
 t171 := Tryz.underlying228
 a171 := Tryz.isAgg228
 z171 := Tryz.sizeOf228
 v171 := Tryz.zeroValue228
 t173 := Tryz.underlying230
 a173 := Tryz.isAgg230
 z173 := Tryz.sizeOf230
 v173 := Tryz.zeroValue230
 t210 := Tryz.underlying264
 a210 := Tryz.isAgg264
 z210 := Tryz.sizeOf264
 v210 := Tryz.zeroValue264
 t212 := Tryz.underlying243
 a212 := Tryz.isAgg243
 z212 := Tryz.sizeOf243
 v212 := Tryz.zeroValue243
 t213 := Tryz.underlying244
 a213 := Tryz.isAgg244
 z213 := Tryz.sizeOf244
 t232 := Tryz.underlying260
 a232 := Tryz.isAgg260
 z232 := Tryz.sizeOf260
 v232 := Tryz.zeroValue260
 t233 := Tryz.underlying261
 a233 := Tryz.isAgg261
 z233 := Tryz.sizeOf261
 v233 := Tryz.zeroValue261
 g15 := by kernel_rfl
 g16 := by kernel_rfl
 g17 := by kernel_rfl
 g18 := by kernel_rfl
 g19 := by kernel_rfl
 t80 := Tryz.underlying67
 a80 := Tryz.isAgg67
 z80 := Tryz.sizeOf67
 v80 := Tryz.zeroValue67
 i0 := by kernel_rfl
 i2 := by kernel_rfl
 i3 := by kernel_rfl
 i4 := by kernel_rfl
 i5 := by kernel_rfl
 i9 := by kernel_rfl
 i20 := by kernel_rfl
 i37 := by kernel_rfl
 i46 := by kernel_rfl
 i51 := by kernel_rfl
 i53 := by kernel_rfl
 i75 := by kernel_rfl
 i80 := by kernel_rfl
 i127 := by kernel_rfl
 i143 := by kernel_rfl
 i145 := by kernel_rfl
 i167 := by kernel_rfl
 i168 := by kernel_rfl
 i171 := by kernel_rfl
 i173 := by kernel_rfl
 i210 := by kernel_rfl
 i212 := by kernel_rfl
 i232 := by kernel_rfl
 i233 := by kernel_rfl
 m15 := by kernel_rfl
 m16 := by kernel_rfl
 m17 := by kernel_rfl
 m18 := by kernel_rfl
 m19 := by kernel_rfl
 c0 := by kernel_rfl
 c2 := by kernel_rfl
 c3 := by kernel_rfl
 c4 := by kernel_rfl
 c5 := by kernel_rfl
 c9 := by kernel_rfl
 c20 := by kernel_rfl
 c37 := by kernel_rfl
 c46 := by kernel_rfl
 c51 := by kernel_rfl
 c53 := by kernel_rfl
 c75 := by kernel_rfl
 c80 := by kernel_rfl
 c127 := by kernel_rfl
 c143 := by kernel_rfl
 c145 := by kernel_rfl
 c167 := by kernel_rfl
 c168 := by kernel_rfl
 c171 := by kernel_rfl
 c173 := by kernel_rfl
 c210 := by kernel_rfl
 c212 := by kernel_rfl
 c213 := by kernel_rfl
 c232 := by kernel_rfl
 c233 := by kernel_rfl }
theorem lays321 : Go.Proofs.Lays.n321 Tryz.prog repRen := {
 mixed := by kernel_rfl
 f321 := bd321
 t5 := Tryz.underlying5
 a5 := Tryz.isAgg5
 z5 := Tryz.sizeOf5
 v5 := Tryz.zeroValue5 }
theorem repExtra : Builder.Extra Tryz.prog repRen := {
 sizeBuilder := by kernel_rfl
 liesBuilder := by kernel_rfl
 t5 := Tryz.underlying5
 a5 := Tryz.isAgg5
 z5 := Tryz.sizeOf5
 v5 := Tryz.zeroValue5
 infoByte := by kernel_rfl
 cellsByte := by kernel_rfl
 sizeByte := by kernel_rfl
 neB5 := by decide }
end Go.Proofs.YtbdgncndhnnjoaaGreatDoor.Ip

namespace Go.Proofs.YtbdgncndhnnjoaaGreatDoor.Ip
open Go.RowKit
open Go.Shelf Go.Lib
theorem below_same {w w' : World} (h : w' = w) : Below w.heap.size w w' := h ▸ Below.refl _ _
theorem below_drewN (w : World) (n : Nat) : Below w.heap.size w (w.drewN n) := ⟨rfl, rfl, rfl, Nat.le_refl _, fun _ _ => rfl⟩
theorem below_grw (w : World) (k : Nat) (os : Array Obj) : Below w.heap.size w (Go.Sort.grow (w.drewN k) os) := ⟨rfl, rfl, rfl, by show w.heap.size ≤ (w.heap ++ os).size; rw [Array.size_append]; omega, fun j hj => by show (w.heap ++ os)[j]? = w.heap[j]?; rw [Array.getElem?_append_left hj]⟩
def cuA (s sep : ByteArray) : ByteArray := ⟨(Lib.cut s.data.toList sep.data.toList).1.toArray⟩
def cuB (s sep : ByteArray) : ByteArray := ⟨(Lib.cut s.data.toList sep.data.toList).2.1.toArray⟩
def cuC (s sep : ByteArray) : Bool := (Lib.cut s.data.toList sep.data.toList).2.2
theorem c_Cut (s sep : ByteArray) (hs : s.size < 4294967281) (w : World) (hL : Laid w) :
  Calls Tryz.prog 163 #[.string s, .string sep] w fun r w' => r = .returned (.tuple #[.string (cuA s sep), .string (cuB s sep), .bool (cuC s sep)]) ∧ Below w.heap.size w w' := by
 obtain ⟨m, hm⟩ := hL.ml
 exact (Any.strings_Cut lays145 s sep m w hs hm).mono fun e w' ⟨he, n, hw⟩ => ⟨he, hw ▸ below_drewN w n⟩
def ctn (s sub : ByteArray) : Bool := Lib.contains s.data.toList sub.data.toList
theorem c_Contains (s sub : ByteArray) (hs : s.size < 4294967281) (w : World) (hL : Laid w) :
  Calls Tryz.prog 209 #[.string s, .string sub] w fun r w' => r = .returned (.bool (ctn s sub)) ∧ Below w.heap.size w w' := by
 obtain ⟨m, hm⟩ := hL.ml
 exact (Any.strings_Contains lays144 s sub m w hs hm).mono fun e w' ⟨he, hw⟩ => ⟨he, below_same hw⟩
def spl (s sep : ByteArray) : List ByteArray := Lib.splitB sep 0 (Lib.countB s sep) s
def tg (l : List ByteArray) (i : Nat) : ByteArray := l.getD i ⟨#[]⟩
theorem tg_at (l : List ByteArray) (i : Nat) (h : i < l.length) : l[i]? = some (tg l i) := by
 unfold tg
 simp [h]
def vS (l : List ByteArray) : List Value := l.map Value.string
def fS (l : List ByteArray) : Nat → Value := fun i => .string (tg l i)
theorem av_fS (l : List ByteArray) : (l.map Value.string).toArray = av l.length (fS l) := by
 apply Array.ext_getElem?
 intro i
 by_cases h : i < l.length
 ·rw [av_get _ _ _ h]
  simp [fS, tg, h]
 ·rw [Array.getElem?_eq_none (by simp; omega), Array.getElem?_eq_none (by rw [av_size]; omega)]
theorem spl_len (s sep : ByteArray) (h1 : 1 ≤ sep.size) : (spl s sep).length = Lib.countB s sep + 1 := Lib.splitB_all sep h1 0 _ s rfl
theorem spl_le (s sep : ByteArray) (h1 : 1 ≤ sep.size) : (spl s sep).length ≤ s.size + 1 := by
 rw [spl_len s sep h1]
 have := Lib.countB_le sep h1 s.size s (Nat.le_refl _)
 omega
theorem c_Split (s sep : ByteArray) (hs : s.size < 4294967281) (h1 : 1 ≤ sep.size) (w : World) (hL : Laid w) :
  Calls Tryz.prog 62 #[.string s, .string sep] w fun r w' => ∃ g, r = .returned (.slice (some ⟨g, 0, none⟩) (spl s sep).length (spl s sep).length) ∧ w.heap.size ≤ g ∧ w'.heap[g]? = some (.cells (av (spl s sep).length (fS (spl s sep))) 9) ∧ Below w.heap.size w w' := by
 obtain ⟨m, hm⟩ := hL.ml
 refine (Any.strings_Split lays146 (by kernel_rfl) s sep m w hs hm h1).mono fun e w' ⟨he, hw⟩ => ⟨w.heap.size, ?_, Nat.le_refl _, ?_, ?_⟩
 ·rw [spl_len s sep h1]
  exact he
 ·rw [hw, ← av_fS]
  exact heap_alloc_new w _
 ·rw [hw]
  exact new_below w _
def jn (xs : List ByteArray) (sep : ByteArray) : ByteArray := ⟨(Lib.join (xs.map (·.data.toList)) sep.data.toList).toArray⟩
theorem c_Join (g cap : Nat) (Z : Obj) (xs : List ByteArray) (sep : ByteArray) (hN : xs.length ≤ 1000) (hlen : (Lib.join (xs.map (·.data.toList)) sep.data.toList).length ≤ 100000) (w : World) (hg : w.heap[g]? = some Z) (hs : SB Z cap (vS xs)) :
  Calls Tryz.prog 44 #[.slice (some ⟨g, 0, none⟩) xs.length cap, .string sep] w fun r w' => r = .returned (.string (jn xs sep)) ∧ Below w.heap.size w w' := by
 have hle := hs.le
 have hl : (vS xs).length = xs.length := by simp [vS]
 exact Any.strings_Join lays156 repExtra g 0 cap xs sep w (fun j x hx => by
  rw [Nat.zero_add]
  exact hs.cell hg (by simp [vS, hx])) (Array.getElem?_eq_some_iff.1 hg).1 (by omega) (by omega) (by omega)
def dcT (x : Int) : ByteArray := if x < 10 then bs [48 + x] else if x < 100 then bs [48 + x / 10, 48 + x % 10] else bs [48 + x / 100, 48 + x / 10 % 10, 48 + x % 10]
theorem of_ba (l : List UInt8) (m : List Int) (h : l = m.map fun n => UInt8.ofNat n.toNat) : (⟨l.toArray⟩ : ByteArray) = bs m := by
 subst h
 rfl
theorem dec_dcT (u : Nat) (h : u < 1000) : (⟨(Lib.decDigits u).toArray⟩ : ByteArray) = dcT (u : Int) := by
 unfold dcT
 by_cases h1 : u < 10
 ·rw [if_pos (by omega), Lib.decDigits, dif_pos h1]
  exact of_ba _ _ (by simp only [List.map_cons, List.map_nil]; congr 2)
 ·rw [if_neg (by omega), Lib.decDigits, dif_neg h1]
  by_cases h2 : u < 100
  ·rw [if_pos (by omega), Lib.decDigits, dif_pos (by omega)]
   refine of_ba _ _ ?_
   simp only [List.map_cons, List.map_nil, List.cons_append, List.nil_append]
   congr 2
  ·rw [if_neg (by omega), Lib.decDigits, dif_neg (by omega), Lib.decDigits, dif_pos (by omega)]
   refine of_ba _ _ ?_
   simp only [List.map_cons, List.map_nil, List.cons_append, List.nil_append]
   congr 2
   ·have : u / 10 / 10 = u / 100 := by omega
    rw [this]
    rfl
theorem c_Itoa (u : Nat) (h : u < 1000) (w : World) (hL : Laid w) :
  Calls Tryz.prog 82 #[.int .i64 (u : Int)] w fun r w' => r = .returned (.string (dcT (u : Int))) ∧ Below w.heap.size w w' := by
 refine (Any.strconv_Itoa laysM171 (u : Int) (by omega) (by omega) w hL.pw).mono fun e w' ⟨he, k, os, hw⟩ => ⟨?_, hw ▸ below_grw w k os⟩
 rw [he, ← dec_dcT u h]
 rfl
theorem c_small (u : Nat) (h : u < 100) (w : World) :
  Calls Tryz.prog 187 #[.int .i64 (u : Int)] w fun r w' => r = .returned (.string (dcT (u : Int))) ∧ Below w.heap.size w w' := by
 refine (Any.internal_strconv_small lays283 u h w).mono fun e w' ⟨he, hw⟩ => ⟨?_, below_same hw⟩
 rw [he, ← dec_dcT u (by omega)]
theorem c_numDigits (u : Nat) (h0 : 100 ≤ u) (h1 : u < 1000) (w : World) (hL : Laid w) :
  Calls Tryz.prog 188 #[.int .u64 (u : Int)] w fun r w' => r = .returned (.int .i64 3) ∧ Below w.heap.size w w' := by
 refine (Any.internal_strconv_numDigits laysM284 u (by omega) (by omega) w hL.pw).mono fun e w' ⟨he, hw⟩ => ⟨?_, below_same hw⟩
 rw [he, Lib.nDigits_unique 2 u (by omega) (by omega)]
 rfl
theorem grw_putRow {α : Type} [Inhabited α] (enc : α → Value) (w : World) (g off : Nat) (d : Array α) (n : Nat) : Grw w ((Sort.putRow enc w g off d).drewN n) [g] :=
 ⟨rfl, rfl, rfl, by show w.heap.size ≤ (Sort.putRow enc w g off d).heap.size; rw [Sort.size_putRow]; exact Nat.le_refl _, fun k _ hk => by
  show (Sort.putRow enc w g off d).heap[k]? = w.heap[k]?
  unfold Sort.putRow Sort.mapBlock
  have : k ≠ g := fun e => hk (by simp [e])
  show (w.heap.modify g _)[k]? = w.heap[k]?
  rw [Array.getElem?_modify, if_neg (Ne.symm this)]⟩
theorem c_base10 (g : Nat) (u : Nat) (h0 : 100 ≤ u) (h1 : u < 1000) (w : World) (hg : w.heap[g]? = some (.cells (av 24 (w8 (fun _ => 0))) 228)) :
  Calls Tryz.prog 189 #[.slice (some ⟨g, 0, none⟩) 3 24, .int .u64 (u : Int)] w fun r w' => r = .returned (.tuple #[]) ∧ Grw w w' [g] ∧ ∃ Z', w'.heap[g]? = some Z' ∧ SB Z' 3 (vs8 [48 + (u : Int) / 100, 48 + (u : Int) / 10 % 10, 48 + (u : Int) % 10]) := by
 have hH : Sort.Holds (fun (b : UInt8) => Value.int .u8 (b.toNat : Int)) w g 0 (Array.replicate 3 (0 : UInt8)) := fun j hj => by
  have hj : j < 3 := by simpa using hj
  refine ⟨?_, free_av hg _⟩
  rw [Nat.zero_add, cell_av hg (by omega)]
  rcases j with _ | _ | _ | j
  ·rfl
  ·rfl
  ·rfl
  ·omega
 refine (Any.internal_strconv_formatBase10 lays285 g 0 24 u (Array.replicate 3 (0 : UInt8)) w hH (by simp; omega) (by omega) (by simp)).mono fun e w' ⟨he, n, v', dk, hw, hF⟩ => ⟨he, hw ▸ grw_putRow _ _ _ _ _ _, ?_⟩
 have hsz : dk.size = 3 := by simpa using hF.size
 have hd : ∀ t, t < 3 → dk[t]! = Lib.dg u (2 - t) := fun t ht => by
  have := hF.done t (Nat.zero_le _) (by simpa using ht)
  simpa using this
 have hK := Sort.holds_putRow (fun (b : UInt8) => Value.int .u8 (b.toNat : Int)) w g 0 _ dk hH (by simpa using hsz)
 have hcell : ∀ j, j < 3 → w'.cell? ⟨g, j, none⟩ = some (.int .u8 ((Lib.dg u (2 - j)).toNat : Int)) ∧ w'.frozen? ⟨g, j, none⟩ = false := fun j hj => by
  have := hK j (by omega)
  rw [Nat.zero_add, hd j hj] at this
  rw [hw]
  exact this
 have hlt : g < w'.heap.size := by
  have h2 := (Array.getElem?_eq_some_iff.1 hg).1
  have h3 := (grw_putRow (fun (b : UInt8) => Value.int .u8 (b.toNat : Int)) w g 0 dk n).size
  rw [hw]
  omega
 obtain ⟨Z, hZ⟩ : ∃ Z, w'.heap[g]? = some Z := ⟨_, Array.getElem?_eq_getElem hlt⟩
 refine ⟨Z, hZ, ?_⟩
 have hc0 := hcell 2 (by decide)
 cases Z with
 | cells cs T fr =>
  have hcs : ∀ j, j < 3 → cs[j]? = some (.int .u8 ((Lib.dg u (2 - j)).toNat : Int)) ∧ (decide (fr.1 ≤ j) && decide (j < fr.2)) = false := fun j hj => by
   have := hcell j hj
   unfold World.cell? World.frozen? at this
   rw [hZ] at this
   exact ⟨by simpa using this.1, by simpa using this.2⟩
  refine ⟨cs, T, fr, rfl, by simp [vs8], ?_, fun i hi => ?_, fun i hi => (hcs i hi).2⟩
  ·have := (Array.getElem?_eq_some_iff.1 (hcs 2 (by decide)).1).1
   omega
  ·have hi : i < 3 := by simpa [vs8] using hi
   rw [(hcs i hi).1]
   rcases i with _ | _ | _ | i
   ·simp [vs8, Lib.dg]
    omega
   ·simp [vs8, Lib.dg]
    omega
   ·simp [vs8, Lib.dg]
    omega
   ·omega
 | _ => simp [World.cell?, hZ] at hc0
end Go.Proofs.YtbdgncndhnnjoaaGreatDoor.Ip

namespace Go.Proofs.YtbdgncndhnnjoaaGreatDoor.Ip
set_option linter.unusedSimpArgs false
open Go.RowKit
section
variable {P : Program} {ops : Array Oper} {rest : List Oper} {o : Oper} {a : Act} {w : World} {c : Ctx} {L : List Blk} {Q : Exit → Act → World → Prop}
def NB (f : Nat → Int) : Prop := ∀ i, 0 ≤ f i ∧ f i < 256
theorem NB.z : NB (fun _ => 0) := fun _ => ⟨Int.le_refl 0, show (0 : Int) < 256 by decide⟩
theorem NB.u {f : Nat → Int} (h : NB f) (k : Nat) {v : Int} (h0 : 0 ≤ v ∧ v < 256) : NB (upd f k v) := fun i => by
 unfold upd
 split
 ·exact h0
 ·exact h i
theorem run_slAH {P : Program} {a : Act} {o : Oper} (t : TypeId) (len : Nat) (elem : TypeId) (hu : P.underlying t = some (.array len elem)) (hs : (P.info? elem).map (·.size) = some 1) (x hi : Operand) (ho : o.op = .slice t x none (some hi) none) (g off : Nat) (hx : a.eval x = .pointer (some ⟨g, off, none⟩)) (k : IntKind) (i : Nat) (hh : a.eval hi = .int k (i : Int)) (hle : i ≤ len) (hl : 0 < len) (w : World) :
  (execOp a.eval o).run P w = .ok (.value (.slice (some ⟨g, off, none⟩) i len)) w := by
 cases hq : P.info? elem with
 | none => simp [hq] at hs
 | some u =>
  have hne : ¬ len = 0 := by omega
  unfold execOp
  simp [ho, hx, hh, Instr.sliceAt, Instr.sureAddr, run_underlying hu, Instr.sliceBounds, run_sliceBound, sizeOf, typeInfo, hq, add_at, hne, hle]
theorem pl_callz (M : Mem c L w) (hw : Region.wanted o (yielded ops a.tmps) = true) (d : Option Tmp) (hd : o.dst = d) (f : FuncId) (args : Array Value) (v : Value) (i g : Nat) (Z : Obj) (K : Obj → Prop) (hi : L[i]? = some ⟨g, Z⟩) (hrun : ∀ w, (execOp a.eval o).run P w = .ok (.enter f args) w)
  (hc : ∀ w, Mem c L w → Calls P f args w fun e w' => e = .returned v ∧ Grw w w' [g] ∧ ∃ Z', w'.heap[g]? = some Z' ∧ K Z') (h : ∀ Z' w', K Z' → Mem c (L.set i ⟨g, Z'⟩) w' → PL P ops Q rest (a.put d v) w') : PL P ops Q (o :: rest) a w :=
 pl_callq hw d hd f args hrun ((hc w M).mono fun _ w' ⟨he, h1, Z', h2, h3⟩ => ⟨v, he, h Z' w' h3 (M.put i ⟨g, Z⟩ hi Z' h1 h2)⟩)
end
section
variable {ops : Array Oper} {rest : List Oper} {o : Oper} {a : Act} {w : World} {c : Ctx} {L : List Blk} {Q : Exit → Act → World → Prop}
theorem pl_backO (M : Mem c L w) (hw : Region.wanted o (yielded ops a.tmps) = true) (d : Option Tmp) (hd : o.dst = d) (x : Operand) (ho : o.op = .convert 41 9 x) (i g off n cap N T : Nat) (F : Nat → Int) (hx : a.eval x = .slice (some ⟨g, off, none⟩) n cap) (hi : L[i]? = some ⟨g, .cells (av N (w8 F)) T⟩) (hn : off + n ≤ N) (hF : ∀ i, 0 ≤ F i ∧ F i < 256)
  (h : PL Tryz.prog ops Q rest (a.put d (.string (bs ((List.range n).map fun j => F (off + j))))) w) : PL Tryz.prog ops Q (o :: rest) a w := by
 refine pl_to hw d hd _ w ?_ h
 have R := M.get i hi
 have hl : (((List.range n).map fun j => F (off + j)).map fun n => UInt8.ofNat n.toNat).length = n := by simp
 have h2 := run_convert_bytes_back (P := Tryz.prog) w 41 9 5 ⟨g, off, none⟩ cap (((List.range n).map fun j => F (off + j)).map fun n => UInt8.ofNat n.toNat) Tryz.underlying41 Tryz.underlying5 Tryz.underlying9 (fun j hj => by
  rw [hl] at hj
  rw [add_at, cell_av R (by omega)]
  have hb := hF (off + j)
  simp [w8]
  omega)
 rw [hl] at h2
 unfold execOp
 simp only [ho, hx, Sem.run_bind, h2, Result.andThen_ok, Sem.run_pure]
 rfl
end
def dgt (k : Nat) : Int := bt (⟨#[48, 49, 50, 51, 52, 53, 54, 55, 56, 57, 97, 98, 99, 100, 101, 102, 103, 104, 105, 106, 107, 108, 109, 110, 111, 112, 113, 114, 115, 116, 117, 118, 119, 120, 121, 122]⟩ : ByteArray) k
def hxT (n : Nat) : ByteArray := if n < 16 then bs [dgt n] else if n < 256 then bs [dgt (n / 16), dgt (n % 16)] else if n < 4096 then bs [dgt (n / 16 / 16), dgt (n / 16 % 16), dgt (n % 16)] else bs [dgt (n / 16 / 16 / 16), dgt (n / 16 / 16 % 16), dgt (n / 16 % 16), dgt (n % 16)]
theorem un_15 (n : Nat) (h : n < 65536) : un (n : Int) 15 = ((n % 16 : Nat) : Int) := by
 have e : BitVec.ofInt 64 15 = BitVec.ofNat 64 15 := by decide
 have e2 : BitVec.ofInt 64 (n : Int) = BitVec.ofNat 64 n := rfl
 unfold un
 rw [e, e2, BitVec.toNat_and, BitVec.toNat_ofNat, BitVec.toNat_ofNat, Nat.mod_eq_of_lt (by omega), Nat.mod_eq_of_lt (by omega)]
 have e3 : n &&& 15 = n % 16 := Nat.and_two_pow_sub_one_eq_mod n 4
 rw [e3, IntKind.wrap_u64]
 omega
theorem sr_4 (n : Nat) : sr (n : Int) 4 = ((n / 16 : Nat) : Int) := by
 unfold sr
 rw [Int.fdiv_eq_ediv_of_nonneg _ (by decide)]
 rfl
set_option maxRecDepth 100000 in
set_option maxHeartbeats 4000000 in
set_option linter.unusedSimpArgs false in
theorem c_fu10 (u : Nat) (hu : u < 1000) (w : World) (hL : Laid w)  :
  Calls Tryz.prog 160 #[.int .u64 (u : Int), .int .i64 10] w fun r w' => r = .returned (.string (dcT (u : Int))) ∧ Below w.heap.size w w' := by
 go_enter Tryz.func160, Tryz.ntmps160
 have M := Mem.start hL
 refine wp_seq ?_
 refine rg_lit ?_
 refine pl_val (want_no rfl) (some 4) rfl (.string ⟨#[]⟩) (fun _ => by kernel_rfl) ?_
 refine pl_nil ?_
 refine au_then ?_
 refine wp_seq ?_
 refine wp_seq ?_
 refine rg_lit ?_
 refine pl_val (want_no rfl) (some 9) rfl (.int .i64 10) (fun _ => by kernel_rfl) ?_
 refine pl_val (want_no rfl) (some 10) rfl (.bool true) (fun _ => by kernel_rfl) ?_
 refine pl_nil ?_
 refine au_then ?_
 refine wp_cond_true (by kernel_rfl) ?_
 refine wp_seq ?_
 refine wp_seq ?_
 refine rg_lit ?_
 refine pl_val (want_no rfl) (some 11) rfl (.int .u64 (u : Int)) (fun _ => by kernel_rfl) ?_
 by_cases c0 : (u : Int) < 100
 ·skip
  refine pl_val (want_no rfl) (some 12) rfl (.bool true) (fun w => Eq.trans (b := .ok (.value (.bool (decide ((u : Int) < 100)))) w) (by kernel_rfl) (by rw [decide_eq_true (c0)])) ?_
  refine pl_nil ?_
  refine au_then ?_
  refine wp_cond_true (by kernel_rfl) ?_
  refine wp_seq ?_
  refine rg_lit ?_
  refine pl_val (want_no rfl) (some 13) rfl (.int .u64 (u : Int)) (fun _ => by kernel_rfl) ?_
  refine pl_val (want_no rfl) (some 14) rfl (.int .i64 (u : Int)) (fun w => Eq.trans (b := .ok (.value (.int .i64 (cv .i64 (u : Int)))) w) (by kernel_rfl) (by rw [cv_i64 (by omega) (by omega)])) ?_
  refine pl_call M (want_no rfl) (some 15) rfl 187 #[.int .i64 (u : Int)] (.string (dcT (u : Int))) (fun _ => by kernel_rfl) (fun w M => c_small u (by omega) w) ?_
  intro u1 M
  refine pl_val (want_no rfl) (some 4) rfl (.string (dcT (u : Int))) (fun _ => by kernel_rfl) ?_
  refine pl_nil ?_
  refine au_then ?_
  refine wp_ret ?_
  refine au_then_ret ?_
  refine au_then_ret ?_
  exact bodyPost_ret (v := .string (dcT (u : Int))) (results_tmp1 Tryz.results160 _ _ _ (by kernel_rfl)) (by kernel_rfl) ⟨rfl, below_grown M.old⟩
 ·skip
  refine pl_val (want_no rfl) (some 12) rfl (.bool false) (fun w => Eq.trans (b := .ok (.value (.bool (decide ((u : Int) < 100)))) w) (by kernel_rfl) (by rw [decide_eq_false (c0)])) ?_
  refine pl_nil ?_
  refine au_then ?_
  refine wp_cond_false (by kernel_rfl) ?_
  refine wp_skip ?_
  refine au_then ?_
  refine wp_seq ?_
  refine rg_lit ?_
  refine pl_new M (want_no rfl) (some 5) rfl (.cells (av 24 (w8 (fun _ => 0))) 228) (fun _ => by kernel_rfl) ?_
  intro g1 u1 M
  replace M : Mem ⟨w, []⟩ [⟨g1, .cells (av 24 (w8 (fun _ => 0))) 228⟩] u1 := M
  refine pl_nil ?_
  refine au_then ?_
  refine wp_seq ?_
  refine rg_lit ?_
  refine pl_val (want_no rfl) (some 16) rfl (.int .u64 (u : Int)) (fun _ => by kernel_rfl) ?_
  refine pl_call M (want_no rfl) (some 17) rfl 188 #[.int .u64 (u : Int)] (.int .i64 3) (fun _ => by kernel_rfl) (fun w M => c_numDigits u (by omega) hu w M.laid) ?_
  intro u2 M
  refine pl_val (want_no rfl) (some 6) rfl (.int .i64 3) (fun _ => by kernel_rfl) ?_
  refine pl_nil ?_
  refine au_then ?_
  refine wp_seq ?_
  refine rg_lit ?_
  refine pl_val (want_no rfl) (some 18) rfl (.int .i64 3) (fun _ => by kernel_rfl) ?_
  refine pl_val (want_no rfl) (some 19) rfl (.slice (some ⟨g1, 0, none⟩) 3 24) (run_slAH 228 24 5 Tryz.underlying228 inz5 _ _ rfl g1 0 (by kernel_rfl) .i64 3 (by kernel_rfl) (by decide) (by decide)) ?_
  refine pl_val (want_no rfl) (some 20) rfl (.int .u64 (u : Int)) (fun _ => by kernel_rfl) ?_
  refine pl_callz M (want_no rfl) (some 21) rfl 189 #[.slice (some ⟨g1, 0, none⟩) 3 24, .int .u64 (u : Int)] (.tuple #[]) 0 g1 (.cells (av 24 (w8 (fun _ => 0))) 228) (fun Z => SB Z 3 (vs8 [48 + (u : Int) / 100, 48 + (u : Int) / 10 % 10, 48 + (u : Int) % 10])) rfl (fun _ => by kernel_rfl) (fun w M => c_base10 g1 u (by omega) (by omega) w (M.get 0 rfl)) ?_
  intro Z9 u3 hZ9 M
  replace M : Mem ⟨w, []⟩ [⟨g1, Z9⟩] u3 := M
  refine pl_nil ?_
  refine au_then ?_
  refine wp_seq ?_
  refine rg_lit ?_
  refine pl_val (want_no rfl) (some 22) rfl (.int .i64 3) (fun _ => by kernel_rfl) ?_
  refine pl_val (want_no rfl) (some 23) rfl (.slice (some ⟨g1, 0, none⟩) 3 24) (run_slAH 228 24 5 Tryz.underlying228 inz5 _ _ rfl g1 0 (by kernel_rfl) .i64 3 (by kernel_rfl) (by decide) (by decide)) ?_
  refine pl_back M (want_no rfl) (some 24) rfl _ rfl 0 g1 3 24 (by kernel_rfl) _ rfl [48 + (u : Int) / 100, 48 + (u : Int) / 10 % 10, 48 + (u : Int) % 10] 3 hZ9 rfl (by intro x hx; simp only [List.mem_cons, List.mem_nil_iff, or_false] at hx; rcases hx with rfl | rfl | rfl <;> omega) ?_
  refine pl_val (want_no rfl) (some 4) rfl (.string (bs [48 + (u : Int) / 100, 48 + (u : Int) / 10 % 10, 48 + (u : Int) % 10])) (fun _ => by kernel_rfl) ?_
  refine pl_nil ?_
  refine au_then ?_
  refine wp_ret ?_
  refine au_then_ret ?_
  have e0 : (dcT (u : Int)) = (bs [48 + (u : Int) / 100, 48 + (u : Int) / 10 % 10, 48 + (u : Int) % 10]) := by unfold dcT; rw [if_neg (by omega), if_neg (by omega)]
  exact bodyPost_ret (v := .string (bs [48 + (u : Int) / 100, 48 + (u : Int) / 10 % 10, 48 + (u : Int) % 10])) (results_tmp1 Tryz.results160 _ _ _ (by kernel_rfl)) (by kernel_rfl) ⟨by rw [e0], below_grown M.old⟩
set_option maxRecDepth 100000 in
set_option maxHeartbeats 4000000 in
set_option linter.unusedSimpArgs false in
theorem c_fmt10 (u : Nat) (hu : u < 1000) (w : World) (hL : Laid w)  :
  Calls Tryz.prog 120 #[.int .u64 (u : Int), .int .i64 10] w fun r w' => r = .returned (.string (dcT (u : Int))) ∧ Below w.heap.size w w' := by
 go_enter Tryz.func120, Tryz.ntmps120
 have M := Mem.start hL
 refine wp_seq ?_
 refine rg_lit ?_
 refine pl_val (want_no rfl) (some 4) rfl (.string ⟨#[]⟩) (fun _ => by kernel_rfl) ?_
 refine pl_nil ?_
 refine au_then ?_
 refine wp_seq ?_
 refine rg_lit ?_
 refine pl_val (want_no rfl) (some 5) rfl (.int .u64 (u : Int)) (fun _ => by kernel_rfl) ?_
 refine pl_val (want_no rfl) (some 6) rfl (.int .i64 10) (fun _ => by kernel_rfl) ?_
 refine pl_call M (want_no rfl) (some 7) rfl 160 #[.int .u64 (u : Int), .int .i64 10] (.string (dcT (u : Int))) (fun _ => by kernel_rfl) (fun w M => c_fu10 u hu w M.laid) ?_
 intro u1 M
 refine pl_val (want_no rfl) (some 4) rfl (.string (dcT (u : Int))) (fun _ => by kernel_rfl) ?_
 refine pl_nil ?_
 refine au_then ?_
 refine wp_ret ?_
 exact bodyPost_ret (v := .string (dcT (u : Int))) (results_tmp1 Tryz.results120 _ _ _ (by kernel_rfl)) (by kernel_rfl) ⟨rfl, below_grown M.old⟩
set_option maxRecDepth 100000 in
set_option maxHeartbeats 4000000 in
set_option linter.unusedSimpArgs false in
theorem c_pow2  (w : World) (hL : Laid w)  :
  Calls Tryz.prog 207 #[.int .i64 16] w fun r w' => r = .returned (.bool true) ∧ Below w.heap.size w w' := by
 go_enter Tryz.func207, Tryz.ntmps207
 have M := Mem.start hL
 refine wp_seq ?_
 refine rg_lit ?_
 refine pl_val (want_no rfl) (some 2) rfl (.bool false) (fun _ => by kernel_rfl) ?_
 refine pl_nil ?_
 refine au_then ?_
 refine wp_seq ?_
 refine rg_lit ?_
 refine pl_val (want_no rfl) (some 3) rfl (.int .i64 16) (fun _ => by kernel_rfl) ?_
 refine pl_val (want_no rfl) (some 4) rfl (.int .i64 16) (fun _ => by kernel_rfl) ?_
 refine pl_val (want_no rfl) (some 5) rfl (.int .i64 15) (fun _ => by kernel_rfl) ?_
 refine pl_val (want_no rfl) (some 6) rfl (.int .i64 0) (fun _ => by kernel_rfl) ?_
 refine pl_val (want_no rfl) (some 7) rfl (.bool true) (fun _ => by kernel_rfl) ?_
 refine pl_val (want_no rfl) (some 2) rfl (.bool true) (fun _ => by kernel_rfl) ?_
 refine pl_nil ?_
 refine au_then ?_
 refine wp_ret ?_
 exact bodyPost_ret (v := .bool true) (results_tmp1 Tryz.results207 _ _ _ (by kernel_rfl)) (by kernel_rfl) ⟨rfl, below_grown M.old⟩
set_option maxRecDepth 100000 in
set_option maxHeartbeats 4000000 in
set_option linter.unusedSimpArgs false in
theorem c_tz64  (w : World) (hL : Laid w)  :
  Calls Tryz.prog 217 #[.int .u64 16] w fun r w' => r = .returned (.int .i64 4) ∧ Below w.heap.size w w' := by
 go_enter Tryz.func217, Tryz.ntmps217
 have M := Mem.start hL
 refine wp_seq ?_
 refine rg_lit ?_
 refine pl_val (want_no rfl) (some 2) rfl (.int .i64 0) (fun _ => by kernel_rfl) ?_
 refine pl_nil ?_
 refine au_then ?_
 refine wp_seq ?_
 refine wp_seq ?_
 refine rg_lit ?_
 refine pl_val (want_no rfl) (some 3) rfl (.int .u64 16) (fun _ => by kernel_rfl) ?_
 refine pl_val (want_no rfl) (some 4) rfl (.bool false) (fun _ => by kernel_rfl) ?_
 refine pl_nil ?_
 refine au_then ?_
 refine wp_cond_false (by kernel_rfl) ?_
 refine wp_skip ?_
 refine au_then ?_
 refine wp_seq ?_
 refine rg_lit ?_
 refine pl_val (want_no rfl) (some 5) rfl (.int .u64 16) (fun _ => by kernel_rfl) ?_
 refine pl_val (want_no rfl) (some 6) rfl (.int .u64 16) (fun _ => by kernel_rfl) ?_
 refine pl_val (want_no rfl) (some 7) rfl (.int .u64 18446744073709551600) (fun _ => by kernel_rfl) ?_
 refine pl_val (want_no rfl) (some 8) rfl (.int .u64 16) (fun _ => by kernel_rfl) ?_
 refine pl_val (want_no rfl) (some 9) rfl (.int .u64 4573923408821661840) (fun _ => by kernel_rfl) ?_
 refine pl_val (want_no rfl) (some 10) rfl (.int .u64 15) (fun _ => by kernel_rfl) ?_
 refine pl_val (want_no rfl) (some 11) rfl (.pointer (some ⟨7, 15, none⟩)) (fun _ => by kernel_rfl) ?_
 refine pl_cell M (want_no rfl) (some 12) rfl 5 _ rfl 7 15 (by kernel_rfl) (.int .u8 4) (fun _ => by kernel_rfl) (fun w M => M.laid.db) ?_
 refine pl_val (want_no rfl) (some 13) rfl (.int .i64 4) (fun _ => by kernel_rfl) ?_
 refine pl_val (want_no rfl) (some 2) rfl (.int .i64 4) (fun _ => by kernel_rfl) ?_
 refine pl_nil ?_
 refine au_then ?_
 refine wp_ret ?_
 exact bodyPost_ret (v := .int .i64 4) (results_tmp1 Tryz.results217 _ _ _ (by kernel_rfl)) (by kernel_rfl) ⟨rfl, below_grown M.old⟩
set_option maxRecDepth 100000 in
set_option maxHeartbeats 4000000 in
set_option linter.unusedSimpArgs false in
theorem c_tz  (w : World) (hL : Laid w)  :
  Calls Tryz.prog 208 #[.int .u64 16] w fun r w' => r = .returned (.int .i64 4) ∧ Below w.heap.size w w' := by
 go_enter Tryz.func208, Tryz.ntmps208
 have M := Mem.start hL
 refine wp_seq ?_
 refine rg_lit ?_
 refine pl_val (want_no rfl) (some 2) rfl (.int .i64 0) (fun _ => by kernel_rfl) ?_
 refine pl_nil ?_
 refine au_then ?_
 refine wp_seq ?_
 refine wp_cond_false (by kernel_rfl) ?_
 refine wp_skip ?_
 refine au_then ?_
 refine wp_seq ?_
 refine rg_lit ?_
 refine pl_val (want_no rfl) (some 6) rfl (.int .u64 16) (fun _ => by kernel_rfl) ?_
 refine pl_call M (want_no rfl) (some 7) rfl 217 #[.int .u64 16] (.int .i64 4) (fun _ => by kernel_rfl) (fun w M => c_tz64 w M.laid) ?_
 intro u1 M
 refine pl_val (want_no rfl) (some 2) rfl (.int .i64 4) (fun _ => by kernel_rfl) ?_
 refine pl_nil ?_
 refine au_then ?_
 refine wp_ret ?_
 exact bodyPost_ret (v := .int .i64 4) (results_tmp1 Tryz.results208 _ _ _ (by kernel_rfl)) (by kernel_rfl) ⟨rfl, below_grown M.old⟩
set_option maxRecDepth 100000 in
set_option maxHeartbeats 4000000 in
set_option linter.unusedSimpArgs false in
theorem c_fbits (n : Nat) (hn : n < 65536) (w : World) (hL : Laid w)  :
  Calls Tryz.prog 190 #[.slice none 0 0, .int .u64 ((n : Nat) : Int), .int .i64 16, .bool false, .bool false] w fun r w' => r = .returned (.tuple #[.slice none 0 0, .string (hxT n)]) ∧ Below w.heap.size w w' := by
 go_enter Tryz.func190, Tryz.ntmps190
 have M := Mem.start hL
 refine wp_seq ?_
 refine rg_lit ?_
 refine pl_val (want_no rfl) (some 10) rfl (.slice none 0 0) (fun _ => by kernel_rfl) ?_
 refine pl_val (want_no rfl) (some 11) rfl (.string ⟨#[]⟩) (fun _ => by kernel_rfl) ?_
 refine pl_nil ?_
 refine au_then ?_
 refine wp_seq ?_
 refine wp_seq ?_
 refine rg_lit ?_
 refine pl_val (want_no rfl) (some 19) rfl (.int .i64 16) (fun _ => by kernel_rfl) ?_
 refine pl_val (want_no rfl) (some 20) rfl (.bool false) (fun _ => by kernel_rfl) ?_
 refine pl_val (want_no rfl) (some 21) rfl (.bool false) (fun _ => by kernel_rfl) ?_
 refine pl_val (want_on 2 false rfl 21 rfl (by kernel_rfl)) (some 22) rfl (.int .i64 16) (fun _ => by kernel_rfl) ?_
 refine pl_val (want_on 2 false rfl 21 rfl (by kernel_rfl)) (some 23) rfl (.bool false) (fun _ => by kernel_rfl) ?_
 refine pl_val (want_no rfl) (some 24) rfl (.bool false) (fun _ => by kernel_rfl) ?_
 refine pl_val (want_no rfl) (some 25) rfl (.bool false) (fun _ => by kernel_rfl) ?_
 refine pl_val (want_on 6 false rfl 25 rfl (by kernel_rfl)) (some 26) rfl (.int .i64 16) (fun _ => by kernel_rfl) ?_
 refine pl_val (want_on 6 false rfl 25 rfl (by kernel_rfl)) (some 27) rfl (.bool false) (fun _ => by kernel_rfl) ?_
 refine pl_val (want_no rfl) (some 28) rfl (.bool false) (fun _ => by kernel_rfl) ?_
 refine pl_nil ?_
 refine au_then ?_
 refine wp_cond_false (by kernel_rfl) ?_
 refine wp_skip ?_
 refine au_then ?_
 refine wp_seq ?_
 refine rg_lit ?_
 refine pl_new M (want_no rfl) (some 12) rfl (.cells (av 65 (w8 (fun _ => 0))) 244) (fun _ => by kernel_rfl) ?_
 intro g1 u1 M
 replace M : Mem ⟨w, []⟩ [⟨g1, .cells (av 65 (w8 (fun _ => 0))) 244⟩] u1 := M
 refine pl_nil ?_
 refine au_then ?_
 refine wp_seq ?_
 refine rg_lit ?_
 refine pl_val (want_no rfl) (some 13) rfl (.int .i64 65) (fun _ => by kernel_rfl) ?_
 refine pl_nil ?_
 refine au_then ?_
 refine wp_seq ?_
 refine wp_seq ?_
 refine rg_lit ?_
 refine pl_val (want_no rfl) (some 30) rfl (.bool false) (fun _ => by kernel_rfl) ?_
 refine pl_nil ?_
 refine au_then ?_
 refine wp_cond_false (by kernel_rfl) ?_
 refine wp_skip ?_
 refine au_then ?_
 refine wp_seq ?_
 refine wp_seq ?_
 refine rg_lit ?_
 refine pl_val (want_no rfl) (some 33) rfl (.int .i64 16) (fun _ => by kernel_rfl) ?_
 refine pl_call M (want_no rfl) (some 34) rfl 207 #[.int .i64 16] (.bool true) (fun _ => by kernel_rfl) (fun w M => c_pow2 w M.laid) ?_
 intro u2 M
 refine pl_nil ?_
 refine au_then ?_
 refine wp_cond_true (by kernel_rfl) ?_
 refine wp_seq ?_
 refine rg_lit ?_
 refine pl_val (want_no rfl) (some 35) rfl (.int .i64 16) (fun _ => by kernel_rfl) ?_
 refine pl_val (want_no rfl) (some 36) rfl (.int .u64 16) (fun _ => by kernel_rfl) ?_
 refine pl_call M (want_no rfl) (some 37) rfl 208 #[.int .u64 16] (.int .i64 4) (fun _ => by kernel_rfl) (fun w M => c_tz w M.laid) ?_
 intro u3 M
 refine pl_val (want_no rfl) (some 38) rfl (.int .u64 4) (fun _ => by kernel_rfl) ?_
 refine pl_val (want_no rfl) (some 14) rfl (.int .u64 4) (fun _ => by kernel_rfl) ?_
 refine pl_nil ?_
 refine au_then ?_
 refine wp_seq ?_
 refine rg_lit ?_
 refine pl_val (want_no rfl) (some 39) rfl (.int .i64 16) (fun _ => by kernel_rfl) ?_
 refine pl_val (want_no rfl) (some 40) rfl (.int .u64 16) (fun _ => by kernel_rfl) ?_
 refine pl_val (want_no rfl) (some 15) rfl (.int .u64 16) (fun _ => by kernel_rfl) ?_
 refine pl_nil ?_
 refine au_then ?_
 refine wp_seq ?_
 refine rg_lit ?_
 refine pl_val (want_no rfl) (some 41) rfl (.int .i64 16) (fun _ => by kernel_rfl) ?_
 refine pl_val (want_no rfl) (some 42) rfl (.int .u64 16) (fun _ => by kernel_rfl) ?_
 refine pl_val (want_no rfl) (some 43) rfl (.int .u64 15) (fun _ => by kernel_rfl) ?_
 refine pl_val (want_no rfl) (some 16) rfl (.int .u64 15) (fun _ => by kernel_rfl) ?_
 refine pl_nil ?_
 refine au_then ?_
 refine wp_seq ?_
 refine wp_block ?_
 refine wp_loop_rounds 4 ?_
 refine rounds_go ?_
 refine wp_seq ?_
 refine wp_seq ?_
 refine rg_lit ?_
 refine pl_val (want_no rfl) (some 44) rfl (.int .u64 ((n : Nat) : Int)) (fun _ => by kernel_rfl) ?_
 refine pl_val (want_no rfl) (some 45) rfl (.int .u64 16) (fun _ => by kernel_rfl) ?_
 by_cases c0 : n < 16
 ·skip
  refine pl_val (want_no rfl) (some 46) rfl (.bool false) (fun w => Eq.trans (b := .ok (.value (.bool (decide ((16 : Int) ≤ ((n : Nat) : Int))))) w) (by kernel_rfl) (by rw [decide_eq_false (by omega)])) ?_
  refine pl_nil ?_
  refine au_then ?_
  refine wp_cond_false (by kernel_rfl) ?_
  refine wp_exit ?_
  refine au_then_exit ?_
  refine au_then_exit ?_
  refine au_block_exit ?_
  refine au_then ?_
  refine wp_seq ?_
  refine rg_lit ?_
  refine pl_val (want_no rfl) (some 58) rfl (.int .i64 65) (fun _ => by kernel_rfl) ?_
  refine pl_val (want_no rfl) (some 59) rfl (.int .i64 64) (fun _ => by kernel_rfl) ?_
  refine pl_val (want_no rfl) (some 13) rfl (.int .i64 64) (fun _ => by kernel_rfl) ?_
  refine pl_nil ?_
  refine au_then ?_
  refine rg_lit ?_
  refine pl_val (want_no rfl) (some 60) rfl (.int .i64 64) (fun _ => by kernel_rfl) ?_
  refine pl_val (want_no rfl) (some 61) rfl (.int .u64 ((n : Nat) : Int)) (fun _ => by kernel_rfl) ?_
  refine pl_val (want_no rfl) (some 62) rfl (.int .u8 (dgt n)) (run_ixS 9 Tryz.underlying9 _ _ rfl ⟨#[48, 49, 50, 51, 52, 53, 54, 55, 56, 57, 97, 98, 99, 100, 101, 102, 103, 104, 105, 106, 107, 108, 109, 110, 111, 112, 113, 114, 115, 116, 117, 118, 119, 120, 121, 122]⟩ (by kernel_rfl) .u64 n (by kernel_rfl) (show n < 36 by omega)) ?_
  refine pl_val (want_no rfl) (some 63) rfl (.pointer (some ⟨g1, 64, none⟩)) (fun _ => by kernel_rfl) ?_
  refine pl_put1 M (want_no rfl) rfl 5 _ _ rfl 0 g1 64 (by kernel_rfl) 65 244 (w8 (fun _ => 0)) rfl (.int .u8 (dgt n)) (w8 (upd (fun _ => 0) 64 (dgt n))) (by kernel_rfl) inz5 (by decide) rfl rfl (fun j _ => put_w8 _ _ _ j) ?_
  intro u4 M
  replace M : Mem ⟨w, []⟩ [⟨g1, .cells (av 65 (w8 (upd (fun _ => 0) 64 (dgt n)))) 244⟩] u4 := M
  refine pl_nil ?_
  refine au_then ?_
  refine wp_seq ?_
  refine wp_seq ?_
  refine rg_lit ?_
  refine pl_val (want_no rfl) (some 89) rfl (.bool false) (fun _ => by kernel_rfl) ?_
  refine pl_nil ?_
  refine au_then ?_
  refine wp_cond_false (by kernel_rfl) ?_
  refine wp_skip ?_
  refine au_then ?_
  refine wp_seq ?_
  refine wp_seq ?_
  refine rg_lit ?_
  refine pl_val (want_no rfl) (some 94) rfl (.bool false) (fun _ => by kernel_rfl) ?_
  refine pl_nil ?_
  refine au_then ?_
  refine wp_cond_false (by kernel_rfl) ?_
  refine wp_skip ?_
  refine au_then ?_
  refine wp_seq ?_
  refine rg_lit ?_
  refine pl_val (want_no rfl) (some 99) rfl (.int .i64 64) (fun _ => by kernel_rfl) ?_
  refine pl_val (want_no rfl) (some 100) rfl (.slice (some ⟨g1, 64, none⟩) 1 1) (fun _ => by kernel_rfl) ?_
  refine pl_backO M (want_no rfl) (some 101) rfl _ rfl 0 g1 64 1 1 65 244 (upd (fun _ => 0) 64 (dgt n)) (by kernel_rfl) rfl (by decide) (NB.z.u _ (bt_nn _ _)) ?_
  refine pl_val (want_no rfl) (some 11) rfl (.string (bs ((List.range 1).map fun j => (upd (fun _ => 0) 64 (dgt n)) (64 + j)))) (fun _ => by kernel_rfl) ?_
  refine pl_nil ?_
  refine au_then ?_
  refine wp_ret ?_
  have e0 : (hxT n) = (bs ((List.range 1).map fun j => (upd (fun _ => 0) 64 (dgt n)) (64 + j))) := by unfold hxT; rw [if_pos (by omega)]; rfl
  exact bodyPost_ret (v := .tuple #[.slice none 0 0, .string (bs ((List.range 1).map fun j => (upd (fun _ => 0) 64 (dgt n)) (64 + j)))]) (results_tmp2 Tryz.results190 _ _ _ _ (by kernel_rfl) (by kernel_rfl)) (by kernel_rfl) ⟨by rw [e0], below_grown M.old⟩
 ·skip
  refine pl_val (want_no rfl) (some 46) rfl (.bool true) (fun w => Eq.trans (b := .ok (.value (.bool (decide ((16 : Int) ≤ ((n : Nat) : Int))))) w) (by kernel_rfl) (by rw [decide_eq_true (by omega)])) ?_
  refine pl_nil ?_
  refine au_then ?_
  refine wp_cond_true (by kernel_rfl) ?_
  refine wp_skip ?_
  refine au_then ?_
  refine wp_block ?_
  refine wp_seq ?_
  refine rg_lit ?_
  refine pl_val (want_no rfl) (some 47) rfl (.int .i64 65) (fun _ => by kernel_rfl) ?_
  refine pl_val (want_no rfl) (some 48) rfl (.int .i64 64) (fun _ => by kernel_rfl) ?_
  refine pl_val (want_no rfl) (some 13) rfl (.int .i64 64) (fun _ => by kernel_rfl) ?_
  refine pl_nil ?_
  refine au_then ?_
  refine wp_seq ?_
  refine rg_lit ?_
  refine pl_val (want_no rfl) (some 49) rfl (.int .i64 64) (fun _ => by kernel_rfl) ?_
  refine pl_val (want_no rfl) (some 50) rfl (.int .u64 ((n : Nat) : Int)) (fun _ => by kernel_rfl) ?_
  refine pl_val (want_no rfl) (some 51) rfl (.int .u64 15) (fun _ => by kernel_rfl) ?_
  refine pl_val (want_no rfl) (some 52) rfl (.int .u64 ((n % 16 : Nat) : Int)) (fun w => Eq.trans (b := .ok (.value (.int .u64 (un ((n : Nat) : Int) 15))) w) (by kernel_rfl) (by rw [un_15 _ (by omega)])) ?_
  refine pl_val (want_no rfl) (some 53) rfl (.int .u8 (dgt (n % 16))) (run_ixS 9 Tryz.underlying9 _ _ rfl ⟨#[48, 49, 50, 51, 52, 53, 54, 55, 56, 57, 97, 98, 99, 100, 101, 102, 103, 104, 105, 106, 107, 108, 109, 110, 111, 112, 113, 114, 115, 116, 117, 118, 119, 120, 121, 122]⟩ (by kernel_rfl) .u64 (n % 16) (by kernel_rfl) (show (n % 16) < 36 by omega)) ?_
  refine pl_val (want_no rfl) (some 54) rfl (.pointer (some ⟨g1, 64, none⟩)) (fun _ => by kernel_rfl) ?_
  refine pl_put1 M (want_no rfl) rfl 5 _ _ rfl 0 g1 64 (by kernel_rfl) 65 244 (w8 (fun _ => 0)) rfl (.int .u8 (dgt (n % 16))) (w8 (upd (fun _ => 0) 64 (dgt (n % 16)))) (by kernel_rfl) inz5 (by decide) rfl rfl (fun j _ => put_w8 _ _ _ j) ?_
  intro u4 M
  replace M : Mem ⟨w, []⟩ [⟨g1, .cells (av 65 (w8 (upd (fun _ => 0) 64 (dgt (n % 16))))) 244⟩] u4 := M
  refine pl_nil ?_
  refine au_then ?_
  refine rg_lit ?_
  refine pl_val (want_no rfl) (some 55) rfl (.int .u64 ((n : Nat) : Int)) (fun _ => by kernel_rfl) ?_
  refine pl_val (want_no rfl) (some 56) rfl (.int .u64 4) (fun _ => by kernel_rfl) ?_
  refine pl_val (want_no rfl) (some 57) rfl (.int .u64 ((n / 16 : Nat) : Int)) (fun w => Eq.trans (b := .ok (.value (.int .u64 (sr ((n : Nat) : Int) 4))) w) (by kernel_rfl) (by rw [sr_4])) ?_
  refine pl_val (want_no rfl) (some 1) rfl (.int .u64 ((n / 16 : Nat) : Int)) (fun _ => by kernel_rfl) ?_
  refine pl_nil ?_
  refine au_block ?_
  refine au_then ?_
  refine rounds_go ?_
  refine wp_seq ?_
  refine wp_seq ?_
  refine rg_lit ?_
  refine pl_val (want_no rfl) (some 44) rfl (.int .u64 ((n / 16 : Nat) : Int)) (fun _ => by kernel_rfl) ?_
  refine pl_val (want_no rfl) (some 45) rfl (.int .u64 16) (fun _ => by kernel_rfl) ?_
  by_cases c1 : (n / 16) < 16
  ·skip
   refine pl_val (want_no rfl) (some 46) rfl (.bool false) (fun w => Eq.trans (b := .ok (.value (.bool (decide ((16 : Int) ≤ (((n / 16) : Nat) : Int))))) w) (by kernel_rfl) (by rw [decide_eq_false (by omega)])) ?_
   refine pl_nil ?_
   refine au_then ?_
   refine wp_cond_false (by kernel_rfl) ?_
   refine wp_exit ?_
   refine au_then_exit ?_
   refine au_then_exit ?_
   refine au_block_exit ?_
   refine au_then ?_
   refine wp_seq ?_
   refine rg_lit ?_
   refine pl_val (want_no rfl) (some 58) rfl (.int .i64 64) (fun _ => by kernel_rfl) ?_
   refine pl_val (want_no rfl) (some 59) rfl (.int .i64 63) (fun _ => by kernel_rfl) ?_
   refine pl_val (want_no rfl) (some 13) rfl (.int .i64 63) (fun _ => by kernel_rfl) ?_
   refine pl_nil ?_
   refine au_then ?_
   refine rg_lit ?_
   refine pl_val (want_no rfl) (some 60) rfl (.int .i64 63) (fun _ => by kernel_rfl) ?_
   refine pl_val (want_no rfl) (some 61) rfl (.int .u64 ((n / 16 : Nat) : Int)) (fun _ => by kernel_rfl) ?_
   refine pl_val (want_no rfl) (some 62) rfl (.int .u8 (dgt (n / 16))) (run_ixS 9 Tryz.underlying9 _ _ rfl ⟨#[48, 49, 50, 51, 52, 53, 54, 55, 56, 57, 97, 98, 99, 100, 101, 102, 103, 104, 105, 106, 107, 108, 109, 110, 111, 112, 113, 114, 115, 116, 117, 118, 119, 120, 121, 122]⟩ (by kernel_rfl) .u64 (n / 16) (by kernel_rfl) (show (n / 16) < 36 by omega)) ?_
   refine pl_val (want_no rfl) (some 63) rfl (.pointer (some ⟨g1, 63, none⟩)) (fun _ => by kernel_rfl) ?_
   refine pl_put1 M (want_no rfl) rfl 5 _ _ rfl 0 g1 63 (by kernel_rfl) 65 244 (w8 (upd (fun _ => 0) 64 (dgt (n % 16)))) rfl (.int .u8 (dgt (n / 16))) (w8 (upd (upd (fun _ => 0) 64 (dgt (n % 16))) 63 (dgt (n / 16)))) (by kernel_rfl) inz5 (by decide) rfl rfl (fun j _ => put_w8 _ _ _ j) ?_
   intro u5 M
   replace M : Mem ⟨w, []⟩ [⟨g1, .cells (av 65 (w8 (upd (upd (fun _ => 0) 64 (dgt (n % 16))) 63 (dgt (n / 16))))) 244⟩] u5 := M
   refine pl_nil ?_
   refine au_then ?_
   refine wp_seq ?_
   refine wp_seq ?_
   refine rg_lit ?_
   refine pl_val (want_no rfl) (some 89) rfl (.bool false) (fun _ => by kernel_rfl) ?_
   refine pl_nil ?_
   refine au_then ?_
   refine wp_cond_false (by kernel_rfl) ?_
   refine wp_skip ?_
   refine au_then ?_
   refine wp_seq ?_
   refine wp_seq ?_
   refine rg_lit ?_
   refine pl_val (want_no rfl) (some 94) rfl (.bool false) (fun _ => by kernel_rfl) ?_
   refine pl_nil ?_
   refine au_then ?_
   refine wp_cond_false (by kernel_rfl) ?_
   refine wp_skip ?_
   refine au_then ?_
   refine wp_seq ?_
   refine rg_lit ?_
   refine pl_val (want_no rfl) (some 99) rfl (.int .i64 63) (fun _ => by kernel_rfl) ?_
   refine pl_val (want_no rfl) (some 100) rfl (.slice (some ⟨g1, 63, none⟩) 2 2) (fun _ => by kernel_rfl) ?_
   refine pl_backO M (want_no rfl) (some 101) rfl _ rfl 0 g1 63 2 2 65 244 (upd (upd (fun _ => 0) 64 (dgt (n % 16))) 63 (dgt (n / 16))) (by kernel_rfl) rfl (by decide) ((NB.z.u _ (bt_nn _ _)).u _ (bt_nn _ _)) ?_
   refine pl_val (want_no rfl) (some 11) rfl (.string (bs ((List.range 2).map fun j => (upd (upd (fun _ => 0) 64 (dgt (n % 16))) 63 (dgt (n / 16))) (63 + j)))) (fun _ => by kernel_rfl) ?_
   refine pl_nil ?_
   refine au_then ?_
   refine wp_ret ?_
   have e0 : (hxT n) = (bs ((List.range 2).map fun j => (upd (upd (fun _ => 0) 64 (dgt (n % 16))) 63 (dgt (n / 16))) (63 + j))) := by unfold hxT; rw [if_neg (by omega), if_pos (by omega)]; rfl
   exact bodyPost_ret (v := .tuple #[.slice none 0 0, .string (bs ((List.range 2).map fun j => (upd (upd (fun _ => 0) 64 (dgt (n % 16))) 63 (dgt (n / 16))) (63 + j)))]) (results_tmp2 Tryz.results190 _ _ _ _ (by kernel_rfl) (by kernel_rfl)) (by kernel_rfl) ⟨by rw [e0], below_grown M.old⟩
  ·skip
   refine pl_val (want_no rfl) (some 46) rfl (.bool true) (fun w => Eq.trans (b := .ok (.value (.bool (decide ((16 : Int) ≤ (((n / 16) : Nat) : Int))))) w) (by kernel_rfl) (by rw [decide_eq_true (by omega)])) ?_
   refine pl_nil ?_
   refine au_then ?_
   refine wp_cond_true (by kernel_rfl) ?_
   refine wp_skip ?_
   refine au_then ?_
   refine wp_block ?_
   refine wp_seq ?_
   refine rg_lit ?_
   refine pl_val (want_no rfl) (some 47) rfl (.int .i64 64) (fun _ => by kernel_rfl) ?_
   refine pl_val (want_no rfl) (some 48) rfl (.int .i64 63) (fun _ => by kernel_rfl) ?_
   refine pl_val (want_no rfl) (some 13) rfl (.int .i64 63) (fun _ => by kernel_rfl) ?_
   refine pl_nil ?_
   refine au_then ?_
   refine wp_seq ?_
   refine rg_lit ?_
   refine pl_val (want_no rfl) (some 49) rfl (.int .i64 63) (fun _ => by kernel_rfl) ?_
   refine pl_val (want_no rfl) (some 50) rfl (.int .u64 ((n / 16 : Nat) : Int)) (fun _ => by kernel_rfl) ?_
   refine pl_val (want_no rfl) (some 51) rfl (.int .u64 15) (fun _ => by kernel_rfl) ?_
   refine pl_val (want_no rfl) (some 52) rfl (.int .u64 (((n / 16) % 16 : Nat) : Int)) (fun w => Eq.trans (b := .ok (.value (.int .u64 (un (((n / 16) : Nat) : Int) 15))) w) (by kernel_rfl) (by rw [un_15 _ (by omega)])) ?_
   refine pl_val (want_no rfl) (some 53) rfl (.int .u8 (dgt ((n / 16) % 16))) (run_ixS 9 Tryz.underlying9 _ _ rfl ⟨#[48, 49, 50, 51, 52, 53, 54, 55, 56, 57, 97, 98, 99, 100, 101, 102, 103, 104, 105, 106, 107, 108, 109, 110, 111, 112, 113, 114, 115, 116, 117, 118, 119, 120, 121, 122]⟩ (by kernel_rfl) .u64 ((n / 16) % 16) (by kernel_rfl) (show ((n / 16) % 16) < 36 by omega)) ?_
   refine pl_val (want_no rfl) (some 54) rfl (.pointer (some ⟨g1, 63, none⟩)) (fun _ => by kernel_rfl) ?_
   refine pl_put1 M (want_no rfl) rfl 5 _ _ rfl 0 g1 63 (by kernel_rfl) 65 244 (w8 (upd (fun _ => 0) 64 (dgt (n % 16)))) rfl (.int .u8 (dgt ((n / 16) % 16))) (w8 (upd (upd (fun _ => 0) 64 (dgt (n % 16))) 63 (dgt ((n / 16) % 16)))) (by kernel_rfl) inz5 (by decide) rfl rfl (fun j _ => put_w8 _ _ _ j) ?_
   intro u5 M
   replace M : Mem ⟨w, []⟩ [⟨g1, .cells (av 65 (w8 (upd (upd (fun _ => 0) 64 (dgt (n % 16))) 63 (dgt ((n / 16) % 16))))) 244⟩] u5 := M
   refine pl_nil ?_
   refine au_then ?_
   refine rg_lit ?_
   refine pl_val (want_no rfl) (some 55) rfl (.int .u64 ((n / 16 : Nat) : Int)) (fun _ => by kernel_rfl) ?_
   refine pl_val (want_no rfl) (some 56) rfl (.int .u64 4) (fun _ => by kernel_rfl) ?_
   refine pl_val (want_no rfl) (some 57) rfl (.int .u64 (((n / 16) / 16 : Nat) : Int)) (fun w => Eq.trans (b := .ok (.value (.int .u64 (sr (((n / 16) : Nat) : Int) 4))) w) (by kernel_rfl) (by rw [sr_4])) ?_
   refine pl_val (want_no rfl) (some 1) rfl (.int .u64 (((n / 16) / 16 : Nat) : Int)) (fun _ => by kernel_rfl) ?_
   refine pl_nil ?_
   refine au_block ?_
   refine au_then ?_
   refine rounds_go ?_
   refine wp_seq ?_
   refine wp_seq ?_
   refine rg_lit ?_
   refine pl_val (want_no rfl) (some 44) rfl (.int .u64 (((n / 16) / 16 : Nat) : Int)) (fun _ => by kernel_rfl) ?_
   refine pl_val (want_no rfl) (some 45) rfl (.int .u64 16) (fun _ => by kernel_rfl) ?_
   by_cases c2 : ((n / 16) / 16) < 16
   ·skip
    refine pl_val (want_no rfl) (some 46) rfl (.bool false) (fun w => Eq.trans (b := .ok (.value (.bool (decide ((16 : Int) ≤ ((((n / 16) / 16) : Nat) : Int))))) w) (by kernel_rfl) (by rw [decide_eq_false (by omega)])) ?_
    refine pl_nil ?_
    refine au_then ?_
    refine wp_cond_false (by kernel_rfl) ?_
    refine wp_exit ?_
    refine au_then_exit ?_
    refine au_then_exit ?_
    refine au_block_exit ?_
    refine au_then ?_
    refine wp_seq ?_
    refine rg_lit ?_
    refine pl_val (want_no rfl) (some 58) rfl (.int .i64 63) (fun _ => by kernel_rfl) ?_
    refine pl_val (want_no rfl) (some 59) rfl (.int .i64 62) (fun _ => by kernel_rfl) ?_
    refine pl_val (want_no rfl) (some 13) rfl (.int .i64 62) (fun _ => by kernel_rfl) ?_
    refine pl_nil ?_
    refine au_then ?_
    refine rg_lit ?_
    refine pl_val (want_no rfl) (some 60) rfl (.int .i64 62) (fun _ => by kernel_rfl) ?_
    refine pl_val (want_no rfl) (some 61) rfl (.int .u64 (((n / 16) / 16 : Nat) : Int)) (fun _ => by kernel_rfl) ?_
    refine pl_val (want_no rfl) (some 62) rfl (.int .u8 (dgt ((n / 16) / 16))) (run_ixS 9 Tryz.underlying9 _ _ rfl ⟨#[48, 49, 50, 51, 52, 53, 54, 55, 56, 57, 97, 98, 99, 100, 101, 102, 103, 104, 105, 106, 107, 108, 109, 110, 111, 112, 113, 114, 115, 116, 117, 118, 119, 120, 121, 122]⟩ (by kernel_rfl) .u64 ((n / 16) / 16) (by kernel_rfl) (show ((n / 16) / 16) < 36 by omega)) ?_
    refine pl_val (want_no rfl) (some 63) rfl (.pointer (some ⟨g1, 62, none⟩)) (fun _ => by kernel_rfl) ?_
    refine pl_put1 M (want_no rfl) rfl 5 _ _ rfl 0 g1 62 (by kernel_rfl) 65 244 (w8 (upd (upd (fun _ => 0) 64 (dgt (n % 16))) 63 (dgt ((n / 16) % 16)))) rfl (.int .u8 (dgt ((n / 16) / 16))) (w8 (upd (upd (upd (fun _ => 0) 64 (dgt (n % 16))) 63 (dgt ((n / 16) % 16))) 62 (dgt ((n / 16) / 16)))) (by kernel_rfl) inz5 (by decide) rfl rfl (fun j _ => put_w8 _ _ _ j) ?_
    intro u6 M
    replace M : Mem ⟨w, []⟩ [⟨g1, .cells (av 65 (w8 (upd (upd (upd (fun _ => 0) 64 (dgt (n % 16))) 63 (dgt ((n / 16) % 16))) 62 (dgt ((n / 16) / 16))))) 244⟩] u6 := M
    refine pl_nil ?_
    refine au_then ?_
    refine wp_seq ?_
    refine wp_seq ?_
    refine rg_lit ?_
    refine pl_val (want_no rfl) (some 89) rfl (.bool false) (fun _ => by kernel_rfl) ?_
    refine pl_nil ?_
    refine au_then ?_
    refine wp_cond_false (by kernel_rfl) ?_
    refine wp_skip ?_
    refine au_then ?_
    refine wp_seq ?_
    refine wp_seq ?_
    refine rg_lit ?_
    refine pl_val (want_no rfl) (some 94) rfl (.bool false) (fun _ => by kernel_rfl) ?_
    refine pl_nil ?_
    refine au_then ?_
    refine wp_cond_false (by kernel_rfl) ?_
    refine wp_skip ?_
    refine au_then ?_
    refine wp_seq ?_
    refine rg_lit ?_
    refine pl_val (want_no rfl) (some 99) rfl (.int .i64 62) (fun _ => by kernel_rfl) ?_
    refine pl_val (want_no rfl) (some 100) rfl (.slice (some ⟨g1, 62, none⟩) 3 3) (fun _ => by kernel_rfl) ?_
    refine pl_backO M (want_no rfl) (some 101) rfl _ rfl 0 g1 62 3 3 65 244 (upd (upd (upd (fun _ => 0) 64 (dgt (n % 16))) 63 (dgt ((n / 16) % 16))) 62 (dgt ((n / 16) / 16))) (by kernel_rfl) rfl (by decide) (((NB.z.u _ (bt_nn _ _)).u _ (bt_nn _ _)).u _ (bt_nn _ _)) ?_
    refine pl_val (want_no rfl) (some 11) rfl (.string (bs ((List.range 3).map fun j => (upd (upd (upd (fun _ => 0) 64 (dgt (n % 16))) 63 (dgt ((n / 16) % 16))) 62 (dgt ((n / 16) / 16))) (62 + j)))) (fun _ => by kernel_rfl) ?_
    refine pl_nil ?_
    refine au_then ?_
    refine wp_ret ?_
    have e0 : (hxT n) = (bs ((List.range 3).map fun j => (upd (upd (upd (fun _ => 0) 64 (dgt (n % 16))) 63 (dgt ((n / 16) % 16))) 62 (dgt ((n / 16) / 16))) (62 + j))) := by unfold hxT; rw [if_neg (by omega), if_neg (by omega), if_pos (by omega)]; rfl
    exact bodyPost_ret (v := .tuple #[.slice none 0 0, .string (bs ((List.range 3).map fun j => (upd (upd (upd (fun _ => 0) 64 (dgt (n % 16))) 63 (dgt ((n / 16) % 16))) 62 (dgt ((n / 16) / 16))) (62 + j)))]) (results_tmp2 Tryz.results190 _ _ _ _ (by kernel_rfl) (by kernel_rfl)) (by kernel_rfl) ⟨by rw [e0], below_grown M.old⟩
   ·skip
    refine pl_val (want_no rfl) (some 46) rfl (.bool true) (fun w => Eq.trans (b := .ok (.value (.bool (decide ((16 : Int) ≤ ((((n / 16) / 16) : Nat) : Int))))) w) (by kernel_rfl) (by rw [decide_eq_true (by omega)])) ?_
    refine pl_nil ?_
    refine au_then ?_
    refine wp_cond_true (by kernel_rfl) ?_
    refine wp_skip ?_
    refine au_then ?_
    refine wp_block ?_
    refine wp_seq ?_
    refine rg_lit ?_
    refine pl_val (want_no rfl) (some 47) rfl (.int .i64 63) (fun _ => by kernel_rfl) ?_
    refine pl_val (want_no rfl) (some 48) rfl (.int .i64 62) (fun _ => by kernel_rfl) ?_
    refine pl_val (want_no rfl) (some 13) rfl (.int .i64 62) (fun _ => by kernel_rfl) ?_
    refine pl_nil ?_
    refine au_then ?_
    refine wp_seq ?_
    refine rg_lit ?_
    refine pl_val (want_no rfl) (some 49) rfl (.int .i64 62) (fun _ => by kernel_rfl) ?_
    refine pl_val (want_no rfl) (some 50) rfl (.int .u64 (((n / 16) / 16 : Nat) : Int)) (fun _ => by kernel_rfl) ?_
    refine pl_val (want_no rfl) (some 51) rfl (.int .u64 15) (fun _ => by kernel_rfl) ?_
    refine pl_val (want_no rfl) (some 52) rfl (.int .u64 ((((n / 16) / 16) % 16 : Nat) : Int)) (fun w => Eq.trans (b := .ok (.value (.int .u64 (un ((((n / 16) / 16) : Nat) : Int) 15))) w) (by kernel_rfl) (by rw [un_15 _ (by omega)])) ?_
    refine pl_val (want_no rfl) (some 53) rfl (.int .u8 (dgt (((n / 16) / 16) % 16))) (run_ixS 9 Tryz.underlying9 _ _ rfl ⟨#[48, 49, 50, 51, 52, 53, 54, 55, 56, 57, 97, 98, 99, 100, 101, 102, 103, 104, 105, 106, 107, 108, 109, 110, 111, 112, 113, 114, 115, 116, 117, 118, 119, 120, 121, 122]⟩ (by kernel_rfl) .u64 (((n / 16) / 16) % 16) (by kernel_rfl) (show (((n / 16) / 16) % 16) < 36 by omega)) ?_
    refine pl_val (want_no rfl) (some 54) rfl (.pointer (some ⟨g1, 62, none⟩)) (fun _ => by kernel_rfl) ?_
    refine pl_put1 M (want_no rfl) rfl 5 _ _ rfl 0 g1 62 (by kernel_rfl) 65 244 (w8 (upd (upd (fun _ => 0) 64 (dgt (n % 16))) 63 (dgt ((n / 16) % 16)))) rfl (.int .u8 (dgt (((n / 16) / 16) % 16))) (w8 (upd (upd (upd (fun _ => 0) 64 (dgt (n % 16))) 63 (dgt ((n / 16) % 16))) 62 (dgt (((n / 16) / 16) % 16)))) (by kernel_rfl) inz5 (by decide) rfl rfl (fun j _ => put_w8 _ _ _ j) ?_
    intro u6 M
    replace M : Mem ⟨w, []⟩ [⟨g1, .cells (av 65 (w8 (upd (upd (upd (fun _ => 0) 64 (dgt (n % 16))) 63 (dgt ((n / 16) % 16))) 62 (dgt (((n / 16) / 16) % 16))))) 244⟩] u6 := M
    refine pl_nil ?_
    refine au_then ?_
    refine rg_lit ?_
    refine pl_val (want_no rfl) (some 55) rfl (.int .u64 (((n / 16) / 16 : Nat) : Int)) (fun _ => by kernel_rfl) ?_
    refine pl_val (want_no rfl) (some 56) rfl (.int .u64 4) (fun _ => by kernel_rfl) ?_
    refine pl_val (want_no rfl) (some 57) rfl (.int .u64 ((((n / 16) / 16) / 16 : Nat) : Int)) (fun w => Eq.trans (b := .ok (.value (.int .u64 (sr ((((n / 16) / 16) : Nat) : Int) 4))) w) (by kernel_rfl) (by rw [sr_4])) ?_
    refine pl_val (want_no rfl) (some 1) rfl (.int .u64 ((((n / 16) / 16) / 16 : Nat) : Int)) (fun _ => by kernel_rfl) ?_
    refine pl_nil ?_
    refine au_block ?_
    refine au_then ?_
    refine rounds_go ?_
    refine wp_seq ?_
    refine wp_seq ?_
    refine rg_lit ?_
    refine pl_val (want_no rfl) (some 44) rfl (.int .u64 ((((n / 16) / 16) / 16 : Nat) : Int)) (fun _ => by kernel_rfl) ?_
    refine pl_val (want_no rfl) (some 45) rfl (.int .u64 16) (fun _ => by kernel_rfl) ?_
    by_cases c3 : (((n / 16) / 16) / 16) < 16
    ·skip
     refine pl_val (want_no rfl) (some 46) rfl (.bool false) (fun w => Eq.trans (b := .ok (.value (.bool (decide ((16 : Int) ≤ (((((n / 16) / 16) / 16) : Nat) : Int))))) w) (by kernel_rfl) (by rw [decide_eq_false (by omega)])) ?_
     refine pl_nil ?_
     refine au_then ?_
     refine wp_cond_false (by kernel_rfl) ?_
     refine wp_exit ?_
     refine au_then_exit ?_
     refine au_then_exit ?_
     refine au_block_exit ?_
     refine au_then ?_
     refine wp_seq ?_
     refine rg_lit ?_
     refine pl_val (want_no rfl) (some 58) rfl (.int .i64 62) (fun _ => by kernel_rfl) ?_
     refine pl_val (want_no rfl) (some 59) rfl (.int .i64 61) (fun _ => by kernel_rfl) ?_
     refine pl_val (want_no rfl) (some 13) rfl (.int .i64 61) (fun _ => by kernel_rfl) ?_
     refine pl_nil ?_
     refine au_then ?_
     refine rg_lit ?_
     refine pl_val (want_no rfl) (some 60) rfl (.int .i64 61) (fun _ => by kernel_rfl) ?_
     refine pl_val (want_no rfl) (some 61) rfl (.int .u64 ((((n / 16) / 16) / 16 : Nat) : Int)) (fun _ => by kernel_rfl) ?_
     refine pl_val (want_no rfl) (some 62) rfl (.int .u8 (dgt (((n / 16) / 16) / 16))) (run_ixS 9 Tryz.underlying9 _ _ rfl ⟨#[48, 49, 50, 51, 52, 53, 54, 55, 56, 57, 97, 98, 99, 100, 101, 102, 103, 104, 105, 106, 107, 108, 109, 110, 111, 112, 113, 114, 115, 116, 117, 118, 119, 120, 121, 122]⟩ (by kernel_rfl) .u64 (((n / 16) / 16) / 16) (by kernel_rfl) (show (((n / 16) / 16) / 16) < 36 by omega)) ?_
     refine pl_val (want_no rfl) (some 63) rfl (.pointer (some ⟨g1, 61, none⟩)) (fun _ => by kernel_rfl) ?_
     refine pl_put1 M (want_no rfl) rfl 5 _ _ rfl 0 g1 61 (by kernel_rfl) 65 244 (w8 (upd (upd (upd (fun _ => 0) 64 (dgt (n % 16))) 63 (dgt ((n / 16) % 16))) 62 (dgt (((n / 16) / 16) % 16)))) rfl (.int .u8 (dgt (((n / 16) / 16) / 16))) (w8 (upd (upd (upd (upd (fun _ => 0) 64 (dgt (n % 16))) 63 (dgt ((n / 16) % 16))) 62 (dgt (((n / 16) / 16) % 16))) 61 (dgt (((n / 16) / 16) / 16)))) (by kernel_rfl) inz5 (by decide) rfl rfl (fun j _ => put_w8 _ _ _ j) ?_
     intro u7 M
     replace M : Mem ⟨w, []⟩ [⟨g1, .cells (av 65 (w8 (upd (upd (upd (upd (fun _ => 0) 64 (dgt (n % 16))) 63 (dgt ((n / 16) % 16))) 62 (dgt (((n / 16) / 16) % 16))) 61 (dgt (((n / 16) / 16) / 16))))) 244⟩] u7 := M
     refine pl_nil ?_
     refine au_then ?_
     refine wp_seq ?_
     refine wp_seq ?_
     refine rg_lit ?_
     refine pl_val (want_no rfl) (some 89) rfl (.bool false) (fun _ => by kernel_rfl) ?_
     refine pl_nil ?_
     refine au_then ?_
     refine wp_cond_false (by kernel_rfl) ?_
     refine wp_skip ?_
     refine au_then ?_
     refine wp_seq ?_
     refine wp_seq ?_
     refine rg_lit ?_
     refine pl_val (want_no rfl) (some 94) rfl (.bool false) (fun _ => by kernel_rfl) ?_
     refine pl_nil ?_
     refine au_then ?_
     refine wp_cond_false (by kernel_rfl) ?_
     refine wp_skip ?_
     refine au_then ?_
     refine wp_seq ?_
     refine rg_lit ?_
     refine pl_val (want_no rfl) (some 99) rfl (.int .i64 61) (fun _ => by kernel_rfl) ?_
     refine pl_val (want_no rfl) (some 100) rfl (.slice (some ⟨g1, 61, none⟩) 4 4) (fun _ => by kernel_rfl) ?_
     refine pl_backO M (want_no rfl) (some 101) rfl _ rfl 0 g1 61 4 4 65 244 (upd (upd (upd (upd (fun _ => 0) 64 (dgt (n % 16))) 63 (dgt ((n / 16) % 16))) 62 (dgt (((n / 16) / 16) % 16))) 61 (dgt (((n / 16) / 16) / 16))) (by kernel_rfl) rfl (by decide) ((((NB.z.u _ (bt_nn _ _)).u _ (bt_nn _ _)).u _ (bt_nn _ _)).u _ (bt_nn _ _)) ?_
     refine pl_val (want_no rfl) (some 11) rfl (.string (bs ((List.range 4).map fun j => (upd (upd (upd (upd (fun _ => 0) 64 (dgt (n % 16))) 63 (dgt ((n / 16) % 16))) 62 (dgt (((n / 16) / 16) % 16))) 61 (dgt (((n / 16) / 16) / 16))) (61 + j)))) (fun _ => by kernel_rfl) ?_
     refine pl_nil ?_
     refine au_then ?_
     refine wp_ret ?_
     have e0 : (hxT n) = (bs ((List.range 4).map fun j => (upd (upd (upd (upd (fun _ => 0) 64 (dgt (n % 16))) 63 (dgt ((n / 16) % 16))) 62 (dgt (((n / 16) / 16) % 16))) 61 (dgt (((n / 16) / 16) / 16))) (61 + j))) := by unfold hxT; rw [if_neg (by omega), if_neg (by omega), if_neg (by omega)]; rfl
     exact bodyPost_ret (v := .tuple #[.slice none 0 0, .string (bs ((List.range 4).map fun j => (upd (upd (upd (upd (fun _ => 0) 64 (dgt (n % 16))) 63 (dgt ((n / 16) % 16))) 62 (dgt (((n / 16) / 16) % 16))) 61 (dgt (((n / 16) / 16) / 16))) (61 + j)))]) (results_tmp2 Tryz.results190 _ _ _ _ (by kernel_rfl) (by kernel_rfl)) (by kernel_rfl) ⟨by rw [e0], below_grown M.old⟩
    ·exact absurd (by omega) c3
set_option maxRecDepth 100000 in
set_option maxHeartbeats 4000000 in
set_option linter.unusedSimpArgs false in
theorem c_fu16 (n : Nat) (hn : n < 65536) (w : World) (hL : Laid w)  :
  Calls Tryz.prog 160 #[.int .u64 ((n : Nat) : Int), .int .i64 16] w fun r w' => r = .returned (.string (hxT n)) ∧ Below w.heap.size w w' := by
 go_enter Tryz.func160, Tryz.ntmps160
 have M := Mem.start hL
 refine wp_seq ?_
 refine rg_lit ?_
 refine pl_val (want_no rfl) (some 4) rfl (.string ⟨#[]⟩) (fun _ => by kernel_rfl) ?_
 refine pl_nil ?_
 refine au_then ?_
 refine wp_seq ?_
 refine wp_seq ?_
 refine rg_lit ?_
 refine pl_val (want_no rfl) (some 9) rfl (.int .i64 16) (fun _ => by kernel_rfl) ?_
 refine pl_val (want_no rfl) (some 10) rfl (.bool false) (fun _ => by kernel_rfl) ?_
 refine pl_nil ?_
 refine au_then ?_
 refine wp_cond_false (by kernel_rfl) ?_
 refine wp_skip ?_
 refine au_then ?_
 refine wp_seq ?_
 refine rg_lit ?_
 refine pl_val (want_no rfl) (some 26) rfl (.int .u64 ((n : Nat) : Int)) (fun _ => by kernel_rfl) ?_
 refine pl_val (want_no rfl) (some 27) rfl (.int .i64 16) (fun _ => by kernel_rfl) ?_
 refine pl_call M (want_no rfl) (some 28) rfl 190 #[.slice none 0 0, .int .u64 ((n : Nat) : Int), .int .i64 16, .bool false, .bool false] (.tuple #[.slice none 0 0, .string (hxT n)]) (fun _ => by kernel_rfl) (fun w M => c_fbits n hn w M.laid) ?_
 intro u1 M
 refine pl_val (want_no rfl) (some 25) rfl (.tuple #[.slice none 0 0, .string (hxT n)]) (fun _ => by kernel_rfl) ?_
 refine pl_val (want_no rfl) (some 29) rfl (.slice none 0 0) (fun _ => by kernel_rfl) ?_
 refine pl_val (want_no rfl) (some 30) rfl (.string (hxT n)) (fun _ => by kernel_rfl) ?_
 refine pl_val (want_no rfl) (some 7) rfl (.slice none 0 0) (fun _ => by kernel_rfl) ?_
 refine pl_val (want_no rfl) (some 8) rfl (.string (hxT n)) (fun _ => by kernel_rfl) ?_
 refine pl_nil ?_
 refine au_then ?_
 refine wp_seq ?_
 refine rg_lit ?_
 refine pl_val (want_no rfl) (some 31) rfl (.string (hxT n)) (fun _ => by kernel_rfl) ?_
 refine pl_val (want_no rfl) (some 4) rfl (.string (hxT n)) (fun _ => by kernel_rfl) ?_
 refine pl_nil ?_
 refine au_then ?_
 refine wp_ret ?_
 exact bodyPost_ret (v := .string (hxT n)) (results_tmp1 Tryz.results160 _ _ _ (by kernel_rfl)) (by kernel_rfl) ⟨rfl, below_grown M.old⟩
set_option maxRecDepth 100000 in
set_option maxHeartbeats 4000000 in
set_option linter.unusedSimpArgs false in
theorem c_fmt16 (n : Nat) (hn : n < 65536) (w : World) (hL : Laid w)  :
  Calls Tryz.prog 120 #[.int .u64 ((n : Nat) : Int), .int .i64 16] w fun r w' => r = .returned (.string (hxT n)) ∧ Below w.heap.size w w' := by
 go_enter Tryz.func120, Tryz.ntmps120
 have M := Mem.start hL
 refine wp_seq ?_
 refine rg_lit ?_
 refine pl_val (want_no rfl) (some 4) rfl (.string ⟨#[]⟩) (fun _ => by kernel_rfl) ?_
 refine pl_nil ?_
 refine au_then ?_
 refine wp_seq ?_
 refine rg_lit ?_
 refine pl_val (want_no rfl) (some 5) rfl (.int .u64 ((n : Nat) : Int)) (fun _ => by kernel_rfl) ?_
 refine pl_val (want_no rfl) (some 6) rfl (.int .i64 16) (fun _ => by kernel_rfl) ?_
 refine pl_call M (want_no rfl) (some 7) rfl 160 #[.int .u64 ((n : Nat) : Int), .int .i64 16] (.string (hxT n)) (fun _ => by kernel_rfl) (fun w M => c_fu16 n hn w M.laid) ?_
 intro u1 M
 refine pl_val (want_no rfl) (some 4) rfl (.string (hxT n)) (fun _ => by kernel_rfl) ?_
 refine pl_nil ?_
 refine au_then ?_
 refine wp_ret ?_
 exact bodyPost_ret (v := .string (hxT n)) (results_tmp1 Tryz.results120 _ _ _ (by kernel_rfl)) (by kernel_rfl) ⟨rfl, below_grown M.old⟩
end Go.Proofs.YtbdgncndhnnjoaaGreatDoor.Ip
