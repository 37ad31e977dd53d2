/- A range over a function: the walk of a round, and of the statement; a text is cut and its pieces are gone through: the walks of Chunk, its closure, and Tag. -/
import Derived.Test.YtenafinbaanicaaDoorP2
import Derived.RangeFuncLeaves
import Derived.RangeFuncRecord
import Derived.OrdersIn
import Derived.TacticsIn
import Derived.LoopNIn
namespace Go.Proofs.YtenafinbaanicaaDoor.Pol
open Go.RowKit

/-- Every function, every depth; a frame of this kind. -/
def FW (ro : Option Nat) : Fence := { Fence.wide with round := ro }
theorem fw_calls {ro : Option Nat} {n : Nat} {P : Program} {f : FuncId} {args : Array Value} {w : World} {R : Ending → World → Prop} (h : Calls P f args w R) : CallsIn (FW ro) n P f args w R := (callsIn_wide (n := n)).2 h
theorem fw_rows {ro : Option Nat} {n : Nat} {P : Program} {row : String} {args : Array Value} {w : World} {R : Value → World → Prop} (h : Rows P row args w R) : RowsIn (FW ro) n P row args w R :=
  fun c cs _ => let ⟨v, w', r, s⟩ := h c cs; ⟨v, w', r, stepsIn_wide.2 s⟩
section
variable {P : Program} {ops : Array Oper} {rest : List Oper} {o : Oper} {a : Act} {w : World} {Q : Exit → Act → World → Prop} {K : Act → World → Prop} {n : Nat} {ro : Option Nat}
theorem op_in (hd : ∀ c, o.op ≠ .defer c) (h : o.wp P a w K Q) : o.wpIn (FW ro) n P a w K Q := by
  refine ⟨fun _ _ => trivial, ?_⟩
  rw [Oper.semAt_eq _ _ _ hd]
  unfold Oper.wp at h
  generalize (execOp a.eval o).run P w = r at h
  cases r with
  | ok x w' =>
    cases x <;> simp only [Oper.upon] at h <;> simp only [Oper.uponIn]
    all_goals first
      | exact h
      | exact h.elim
      | exact ⟨fun e => by simp [FW, Fence.wide] at e, fw_calls h⟩
      | exact ⟨fun e => by simp [FW, Fence.wide] at e, fw_rows h⟩
  | halt x w' => cases x <;> simp only [Oper.upon] at h <;> simp only [Oper.uponIn] <;> exact h
def ndB (o : Oper) : Bool := match o.op with
  | .defer _ => false
  | _ => true
theorem nd_of (h : ndB o = true) : ∀ c, o.op ≠ .defer c := fun c e => by simp [ndB, e] at h
theorem list_in : ∀ (l : List Oper) (a : Act) (w : World), l.all ndB = true → (∀ a w, ¬ Q .outgrown a w) → wpList P ops Q l a w → wpListIn (FW ro) n P ops Q l a w
  | [], _, _, _, _, h => h
  | o :: l, a, w, hd, hQ, h => by
    simp only [List.all_cons, Bool.and_eq_true] at hd
    unfold wpList at h
    unfold wpListIn
    split
    · rename_i hw
      rw [if_pos hw] at h
      rcases h with h | ⟨_, a', w', h⟩
      · exact Oper.wpIn_mono (fun a w h => list_in l a w hd.2 hQ h) (op_in (nd_of hd.1) h)
      · exact absurd h (hQ a' w')
    · rename_i hw
      rw [if_neg hw] at h
      exact ⟨fun _ _ => trivial, list_in l _ _ hd.2 hQ h⟩
theorem list_in_then : ∀ (l : List Oper) (a : Act) (w : World), l.all ndB = true → (∀ a w, ¬ Q .outgrown a w) → wpList P ops (Exit.then (wpListIn (FW ro) n P ops Q rest) Q) l a w → wpListIn (FW ro) n P ops Q (l ++ rest) a w
  | [], _, _, _, _, h => h
  | o :: l, a, w, hd, hQ, h => by
    simp only [List.all_cons, Bool.and_eq_true] at hd
    unfold wpList at h
    rw [List.cons_append]
    unfold wpListIn
    split
    · rename_i hw
      rw [if_pos hw] at h
      rcases h with h | ⟨_, a', w', h⟩
      · exact Oper.wpIn_mono (fun a w h => list_in_then l a w hd.2 hQ h) (op_in (nd_of hd.1) (wp_unthen h))
      · exact absurd h (hQ a' w')
    · rename_i hw
      rw [if_neg hw] at h
      exact ⟨fun _ _ => trivial, list_in_then l _ _ hd.2 hQ h⟩
theorem any_in (hd : ∀ (i : Nat) (o : Oper), ops[i]? = some o → ndB o = true) (hQ : ∀ a w, ¬ Q .outgrown a w) {md : Region.Mode} : ∀ (fuel : Nat) (listed : Array Bool) (a : Act) (w : World), wpAny P md ops Q fuel listed a w → wpAnyIn (FW ro) n P md ops Q fuel listed a w
  | 0, _, _, _, h => h
  | fuel + 1, listed, a, w, h => ⟨h.1, fun i hi => by
    have h1 := h.2 i hi
    unfold wpOp at h1
    unfold wpOpIn
    cases ho : ops[i]? with
    | none =>
      simp only [ho] at h1 ⊢
      exact any_in hd hQ fuel _ _ _ h1
    | some o =>
      simp only [ho] at h1 ⊢
      split
      · rename_i hw
        rw [if_pos hw] at h1
        rcases h1 with h1 | ⟨_, a', w', h1⟩
        · exact Oper.wpIn_mono (fun a w h => any_in hd hQ fuel _ a w h) (op_in (nd_of (hd i o ho)) h1)
        · exact absurd h1 (hQ a' w')
      · rename_i hw
        rw [if_neg hw] at h1
        exact ⟨fun _ _ => trivial, any_in hd hQ fuel _ _ _ h1⟩⟩
/-- A round's code: regions. -/
theorem rr_lit {id : Nat} {l : List Oper} (hd : l.all ndB = true) (hQ : ∀ a w, ¬ Q .outgrown a w) (h : PL P l.toArray Q l a w) : (Code.region id l.toArray false).wpIn (FW ro) n P Q a w := wpIn_region_lit (list_in l a w hd hQ h.out)
theorem rr_held {c : Ctx} {L : List Blk} {id : Nat} {l : List Oper} (hd : l.all ndB = true) (hO : ∀ a w, ¬ Q .outgrown a w) (M : Mem c L w) (Ls : List Blk) (m : Nat) (hn : l.length = m + 1) (hm : P.follows .mixedOrders = true) (hB : (Region.sinkB .any l.toArray m && Region.chainB .any l.toArray m && Region.noSelect l.toArray) = true) (hQ : ∀ c a d v w, Q (.panic c) (Act.put a d v) w → Q (.panic c) a w)
    (h : ∀ w', Mem c L w' → HL P l.toArray Q (Mem c Ls) m (m + 1) (Array.replicate (m + 1) false) a w') : (Code.region id l.toArray true).wpIn (FW ro) n P Q a w := by
  simp only [Bool.and_eq_true] at hB
  have hsz : l.toArray.size = m + 1 := by simpa using hn
  have inv : HeadInv .any l.toArray m (Array.replicate (m + 1) false) :=
    ⟨by simpa using hn.symm, fun j oj _ hl => (by rw [getD_replicate_false] at hl; cases hl), fun t _ ht => getD_in (by simp; omega) (getD_replicate_false _ _)⟩
  have h2 := (h w.drew M.drew).out hQ ⟨hB.1.1, hB.1.2, by omega, hB.2⟩ inv
  refine wpIn_region_any hm (any_in (fun i o ho => ?_) hO _ _ _ _ (wpAny_of_L (S := Mem c Ls) (n := m) _ _ _ _ ?_))
  · have h3 : l[i]? = some o := by simpa using ho
    exact List.all_eq_true.1 hd o (List.mem_of_getElem? h3)
  · rw [hsz]
    exact h2

/-- How a round may be left. -/
def rdPost (lp : Nat) (d : Option Tmp) (a : Act) (K : Act → World → Prop) : Exit → Act → World → Prop
  | .normal, _, u => ∃ r, u.heap[lp]? = some (.loop r) ∧ K (a.put d (.bool true)) (u.putObj lp (.loop { r with state := .ready, pending := none }))
  | _, _, _ => False
/-- The function that is ranged over calls the loop's body. -/
theorem pl_yield (lp : Nat) (r : Loop) (args : Array Value) (hl : w.heap[lp]? = some (.loop r)) (hs : args.size = r.params.size) (hst : r.state = .ready) (hd : ndB o = true) (hrun : ∀ w, (execOp a.eval o).run P w = (Instr.yield lp args).run P w) (hw : Region.wanted o (yielded ops a.tmps) = true)
    (h : r.assign.wpIn (FW (some lp)) 0 P (Exit.then (fun a1 w1 => w1.heap[lp]? = some (.loop r) ∧ r.body.wpIn (FW (some lp)) 0 P (rdPost lp o.dst a (wpListIn (FW none) 0 P ops Q rest)) a1 (w1.putObj lp (.loop { r with state := .busy }))) (fun _ _ _ => False)) { tmps := (r.params.zip args).foldl (fun t (p, v) => t.setIfInBounds p v) r.tmps, defers := [] } w) :
    wpListIn (FW none) 0 P ops Q (o :: rest) a w := by
  unfold wpListIn
  rw [if_pos hw]
  refine ⟨fun _ _ => trivial, ?_⟩
  rw [Oper.semAt_eq _ _ _ (nd_of hd), hrun, run_yield hl hs, Oper.uponIn_round]
  refine ⟨fun e => by simp [FW, Fence.wide] at e, ?_⟩
  refine roundIn_of_wpIn (F := FW none) trivial ?_
  refine wpIn_mono h ?_
  rintro e a1 w1 hq
  cases e with
  | normal =>
    obtain ⟨h1, h2⟩ := hq
    refine ⟨_, run_beginRound h1 hst, ?_⟩
    refine wpIn_mono h2 ?_
    rintro e a2 w2 hq
    cases e with
    | normal =>
      obtain ⟨r2, h3, h4⟩ := hq
      exact ⟨_, _, run_endRound none h3, h4⟩
    | ret => exact hq.elim
    | exit i => exact hq.elim
    | goto i => exact hq.elim
    | panic c => exact hq.elim
    | outgrown => exact hq.elim
  | ret => exact hq.elim
  | exit i => exact hq.elim
  | goto i => exact hq.elim
  | panic c => exact hq.elim
  | outgrown => exact hq.elim
theorem in_list {l : List Oper} (hd : l.all ndB = true) (hQ : ∀ a w, ¬ Q .outgrown a w) (h : PL P ops Q l a w) : wpListIn (FW none) 0 P ops Q l a w := list_in l a w hd hQ h.out
/-- The statement. -/
theorem wp_range {g : Operand} {ps : Array Tmp} {assign body : Code} {gf : FuncId} {lb : Array Value} (hg : a.eval g = .func (.func gf) #[] lb) (eg : ∀ args w, (callFunc gf args).run P w = .ok (.enter gf args) w)
    (h : ∀ fn, Calls P gf (#[.func (.yield (w.heap.size + 1)) #[] #[]] ++ lb) ((w.alloc (.deferred (some []))).alloc (.loop { state := .ready, pending := none, fn, tmps := a.tmps, params := ps, assign, body, defers := w.heap.size }))
      fun e w3 => (∃ v, e = .returned v) ∧ ∃ r, w3.heap[w.heap.size + 1]? = some (.loop r) ∧ r.state ≠ .busy ∧
        (match r.pending with
         | none => Q .normal { a with defers := { target := .collected w.heap.size, args := #[] } :: a.defers } (w3.putObj (w.heap.size + 1) (.loop { r with state := .exhausted }))
         | some c => c.wp P Q { a with defers := { target := .collected w.heap.size, args := #[] } :: a.defers } (w3.putObj (w.heap.size + 1) (.loop { r with state := .exhausted })))) :
    (Code.rangeFunc g ps assign body).wp P Q a w := by
  refine (wpIn_wide (n := 0)).1 ?_
  refine wpIn_rangeFunc ?_
  intro fn _
  refine ⟨w.heap.size + 1, [{ target := .collected w.heap.size, args := #[] }], ((w.alloc (.deferred (some []))).alloc (.loop { state := .ready, pending := none, fn, tmps := a.tmps, params := ps, assign, body, defers := w.heap.size })), { target := .fn (.func gf) lb, args := #[.func (.yield (w.heap.size + 1)) #[] #[]] }, ((w.alloc (.deferred (some []))).alloc (.loop { state := .ready, pending := none, fn, tmps := a.tmps, params := ps, assign, body, defers := w.heap.size })), gf, #[.func (.yield (w.heap.size + 1)) #[] #[]] ++ lb, ((w.alloc (.deferred (some []))).alloc (.loop { state := .ready, pending := none, fn, tmps := a.tmps, params := ps, assign, body, defers := w.heap.size })), run_enterLoop_outer _ _ _ _ _, ?_, fun _ _ => trivial, ?_, fun e => by simp [Fence.wide] at e, ?_⟩
  · simp only [resolve, hg]
    simp [go_sem]
  · simp [invoke, go_sem, eg]
  · refine (callsIn_wide (n := 0 - 1)).2 ((h fn).mono ?_)
    rintro e w3 ⟨⟨v, rfl⟩, r, h1, h2, h3⟩
    refine ⟨r.pending, _, run_endLoop h1 h2, ?_⟩
    cases hp : r.pending with
    | none =>
      rw [hp] at h3
      exact h3
    | some c =>
      rw [hp] at h3
      exact wpIn_wide.2 h3
/-- A function that holds such a statement leaves. -/
theorem marks_ret {fn : Func} {R : Ending → World → Prop} {D : Nat} {v : Value} (hdf : a.defers = [{ target := .collected D, args := #[] }]) (hD : w.heap[D]? = some (.deferred (some []))) (hr : ∀ w, (results fn a.tmps).run P w = .ok v w) (h : R (.returned v) (w.putObj D (.deferred none))) : bodyPostM Fence.wide 0 P fn R .ret a w := by
  show LeavesInM Fence.wide 0 P fn a.tmps R a.defers .returning w
  rw [hdf]
  refine ⟨by simp, .inl ⟨D, _, rfl, run_takeDeferred hD, ?_⟩⟩
  exact ⟨v, hr _, h⟩
end
/-- The loop over a function in a piece of code. -/
def findRange : Code → Option (Code × Code)
  | .seq a b => (findRange a).orElse fun _ => findRange b
  | .block _ c => findRange c
  | .rangeFunc _ _ s b => some (s, b)
  | _ => none
theorem code_is {O : Option (Code × Code)} {c0 d0 sg bd : Code} (hO : O = some (c0, d0)) (hc : O = some (sg, bd)) {F : Fence} {n : Nat} {P : Program} {Q : Exit → Act → World → Prop} {a : Act} {w : World} (h : d0.wpIn F n P Q a w) : bd.wpIn F n P Q a w := by
  rw [hO] at hc
  cases hc
  exact h
theorem code_is1 {O : Option (Code × Code)} {c0 d0 sg bd : Code} (hO : O = some (c0, d0)) (hc : O = some (sg, bd)) {F : Fence} {n : Nat} {P : Program} {Q : Exit → Act → World → Prop} {a : Act} {w : World} (h : c0.wpIn F n P Q a w) : sg.wpIn F n P Q a w := by
  rw [hO] at hc
  cases hc
  exact h
theorem fr_is {a b : Act} (h : a = b) {c : Code} {F : Fence} {n : Nat} {P : Program} {Q : Exit → Act → World → Prop} {w : World} (k : c.wpIn F n P Q b w) : c.wpIn F n P Q a w := by
  rw [h]
  exact k
theorem rg_yieldN {P : Program} {a : Act} {w : World} {Q : Exit → Act → World → Prop} {id : Nat} {l : List Oper} (m : Nat) (hd : (l.take m).all ndB = true) (hQ : ∀ a w, ¬ Q .outgrown a w) (h : PL P l.toArray (Exit.then (wpListIn (FW none) 0 P l.toArray Q (l.drop m)) Q) (l.take m) a w) : (Code.region id l.toArray false).wp P Q a w := by
  refine (wpIn_wide (n := 0)).1 ?_
  refine wpIn_region_lit (F := FW none) ?_
  have h2 := list_in_then (ro := none) (n := 0) (l.take m) a w hd hQ h.out
  rw [List.take_append_drop] at h2
  exact h2
theorem fr_w {a b : Act} (h : a = b) {c : Code} {P : Program} {Q : Exit → Act → World → Prop} {w : World} (k : c.wp P Q b w) : c.wp P Q a w := by
  rw [h]
  exact k
section
variable {P : Program} {ops : Array Oper} {rest : List Oper} {o : Oper} {a : Act} {w : World} {c : Ctx} {L : List Blk} {Q : Exit → Act → World → Prop}
/-- A call that makes two blocks. -/
theorem pl_calltwo (M : Mem c L w) (hw : Region.wanted o (yielded ops a.tmps) = true) (d : Option Tmp) (hd : o.dst = d) (f : FuncId) (args : Array Value) (v : Nat → Nat → Value) (Z Y : Obj) (hrun : ∀ w, (execOp a.eval o).run P w = .ok (.enter f args) w)
    (hc : ∀ w, Mem c L w → Calls P f args w fun e w' => ∃ g k, e = .returned (v g k) ∧ Mem ⟨w, []⟩ [⟨g, Z⟩, ⟨k, Y⟩] w') (h : ∀ g k w', Mem c (L ++ [⟨g, Z⟩, ⟨k, Y⟩]) w' → PL P ops Q rest (a.put d (v g k)) w') : PL P ops Q (o :: rest) a w :=
  pl_callq hw d hd f args hrun ((hc w M).mono fun _ w' ⟨g, k, he, M'⟩ => ⟨v g k, he, h g k w' (M.news (below_grown M'.old) M'.at_ (fun b hb => (M'.ge b hb).elim id fun h => by cases h) M'.nodup)⟩)
theorem _root_.Go.Proofs.YtenafinbaanicaaDoor.Mem.putO (M : Mem c L w) (i g : Nat) (Z Z' : Obj) (hi : L[i]? = some ⟨g, Z⟩) : Mem c (L.set i ⟨g, Z'⟩) (w.putObj g Z') :=
  M.put i ⟨g, Z⟩ hi Z' ⟨rfl, rfl, rfl, by simp, fun j _ hj => World.putObj_heap_other (by simpa using hj)⟩ (World.putObj_heap_same (Array.getElem?_eq_some_iff.1 (M.get i hi)).1)
theorem _root_.Go.Proofs.YtenafinbaanicaaDoor.Mem.alloc2 (M : Mem c L w) (Z1 Z2 : Obj) : Mem c (L ++ [⟨w.heap.size, Z1⟩, ⟨w.heap.size + 1, Z2⟩]) ((w.alloc Z1).alloc Z2) := by
  have M1 := M.new w.heap.size Z1 (new_below w Z1) (heap_alloc_new w Z1) (Nat.le_refl _)
  have e : (w.alloc Z1).heap.size = w.heap.size + 1 := World.size_alloc _ _
  have M2 := M1.new (w.heap.size + 1) Z2 (new_below (w.alloc Z1) Z2) (by rw [← e]; exact heap_alloc_new (w.alloc Z1) Z2) (by rw [e]; exact Nat.le_refl _)
  rw [List.append_assoc] at M2
  exact M2
end
/-- A piece of a text: its number. -/
def pc (s : ByteArray) (off n : Nat) : Nat → Int := noF (mk (fun i => bt s (off + i)) n)
def nx (s : ByteArray) (r h : Nat → Int) (j : Nat) : Nat → Int := tmF (plF h (pc s (16 * j) (min 16 (s.size - 16 * j)))) r
/-- The number behind some pieces. -/
def sm (s : ByteArray) (r : Nat → Int) : Nat → (Nat → Int)
  | 0 => fun _ => 0
  | j + 1 => nx s r (sm s r j) j

theorem piece_at (s : ByteArray) (off i : Nat) (h : off + i < s.size) : (vs8 (sb s))[off + i]? = some (w8 (fun i => bt s (off + i)) i) := by
  unfold vs8
  rw [List.getElem?_map, sb_get s _ h]
  rfl

set_option maxRecDepth 100000 in
set_option maxHeartbeats 4000000 in
/-- A round: one piece. -/
theorem r_body (sg bd : Code) (hb : Tryd.f65.body.bind findRange = some (sg, bd)) (s : ByteArray) (r h : Nat → Int) (j : Nat) (hj : 16 * j < s.size) (gr gl gh gq cap lp : Nat) (Zl Zq : Obj) (hZ : SB Zq cap (vs8 (sb s))) (L0 : List Blk) (v : Nat → Value) (c : Ctx) (u : World) (R : Exit → Act → World → Prop) (hO : ∀ a w, ¬ R .outgrown a w) (hP : ∀ c a w, ¬ R (.panic c) a w)
    (M : Mem c (⟨gr, .cells (av 5 (w64 r)) 122⟩ :: ⟨gl, Zl⟩ :: ⟨gh, .cells (av 5 (w64 h)) 122⟩ :: ⟨gq, Zq⟩ :: L0) u)
    (hgo : ∀ a u', Mem c (⟨gr, .cells (av 5 (w64 r)) 122⟩ :: ⟨gl, Zl⟩ :: ⟨gh, .cells (av 5 (w64 (nx s r h j))) 122⟩ :: ⟨gq, Zq⟩ :: L0) u' → R .normal a u') :
    bd.wpIn (FW (some lp)) 0 Tryd.prog R (fm (vr v 0 6 ++ [.pointer (some ⟨gr, 0, none⟩), v 7, .pointer (some ⟨gh, 0, none⟩), .slice (some ⟨gq, (16 * j), none⟩) (min 16 (s.size - 16 * j)) (min 16 (s.size - 16 * j))] ++ vr v 10 24)) u := by
  refine code_is (O := Tryd.f65.body.bind findRange) rfl hb ?_
  refine wpIn_block ?_
  refine rr_held (by kernel_rfl) (fun _ _ h => hO _ _ h) M (⟨gr, .cells (av 5 (w64 r)) 122⟩ :: ⟨gl, Zl⟩ :: ⟨gh, .cells (av 5 (w64 h)) 122⟩ :: ⟨gq, Zq⟩ :: L0) 6 rfl (by kernel_rfl) (by kernel_rfl) (fun _ _ _ _ _ h => (hP _ _ _ h).elim) fun u1 M => ?_
  refine hl_load M 0 rfl (by decide) (by kernel_rfl) (by kernel_rfl) (want_no rfl) (some 23) rfl 122 _ rfl 2 gh 0 (by kernel_rfl) 5 122 (w64 h) rfl 5 (w64 h) (fun j _ => by rw [Nat.zero_add]) (by decide) _ Tryd.underlying122 rfl inz122 ?_
  refine qV M 1 24 (.slice (some ⟨gq, (16 * j), none⟩) (min 16 (s.size - 16 * j)) (min 16 (s.size - 16 * j))) ?_
  refine hl_load M 4 rfl (by decide) (by kernel_rfl) (by kernel_rfl) (want_no rfl) (some 27) rfl 122 _ rfl 0 gr 0 (by kernel_rfl) 5 122 (w64 r) rfl 5 (w64 r) (fun j _ => by rw [Nat.zero_add]) (by decide) _ Tryd.underlying122 rfl inz122 ?_
  refine qO 2 ?_
  refine ZC M 25 (fun w M => c_marked (fun i => bt s (16 * j + i)) (min 16 (s.size - 16 * j)) (by omega) gq (16 * j) (min 16 (s.size - 16 * j)) w M.laid (fun i hi => hZ.cell (M.get 3 rfl) (piece_at s (16 * j) i (by omega)))) fun u2 M => ?_
  refine nT ?_
  refine ⟨M, ?_⟩
  refine qO 3 ?_
  refine pC M 26 78 #[.agg (av 5 (w64 h)), .agg (av 5 (w64 (pc s (16 * j) (min 16 (s.size - 16 * j)))))] (.agg (av 5 (w64 (plF h (pc s (16 * j) (min 16 (s.size - 16 * j))))))) (fun w M => c_plus h _ w M.laid) fun u3 M => ?_
  refine nT ?_
  refine ⟨M, ?_⟩
  refine qO 5 ?_
  refine pC M 28 80 #[.agg (av 5 (w64 (plF h (pc s (16 * j) (min 16 (s.size - 16 * j)))))), .agg (av 5 (w64 r))] (.agg (av 5 (w64 (nx s r h j)))) (fun w M => c_times _ r w M.laid) fun u4 M => ?_
  refine nT ?_
  refine ⟨M, ?_⟩
  refine qZ ?_
  refine ZG M 2 5 (w64 (nx s r h j)) fun u5 M => ?_
  refine nT ?_
  refine au_block ?_
  exact hgo _ _ M

set_option maxRecDepth 100000 in
set_option maxHeartbeats 4000000 in
theorem c_chunk (gq n cap : Nat) (w : World) (hL : Laid w)  :
    Calls Tryd.prog 77 #[.slice (some ⟨gq, 0, none⟩) n cap, .int .i64 16] w fun r w' => ∃ g k, r = .returned (.func (.func 90) #[] #[.pointer (some ⟨g, 0, none⟩), .pointer (some ⟨k, 0, none⟩)]) ∧ Mem ⟨w, []⟩ [⟨g, .cells (av 1 (fun _ => .slice (some ⟨gq, 0, none⟩) n cap)) 26⟩, ⟨k, .cells (av 1 (fun _ => .int .i64 16)) 3⟩] w' := by
  go_enter Tryd.func77, Tryd.ntmps77
  have M := Mem.start hL
  refine sR ?_
  refine pN M 2 (.cells (av 1 (fun _ => .slice (some ⟨gq, 0, none⟩) n cap)) 26) fun g1 u1 M => ?_
  refine pN M 3 (.cells (av 1 (fun _ => .int .i64 16)) 3) fun g2 u2 M => ?_
  refine rV 1 ?_
  refine nT ?_
  refine wp_seq ?_
  refine sR ?_
  refine ZE M 5 1 0 ?_
  refine rV 1 ?_
  refine nT ?_
  refine wp_cond_false (by kernel_rfl) ?_
  refine wp_skip ?_
  refine au_then ?_
  refine sq ?_
  refine wp_ret ?_
  exact bX (.func (.func 90) #[] #[.pointer (some ⟨g1, 0, none⟩), .pointer (some ⟨g2, 0, none⟩)]) ⟨g1, g2, rfl, M⟩

/-- The loop's record. -/
def lpr (st : LoopState) (pe : Option Code) (fn : FuncId) (T : Array Value) (sg bd : Code) (D : Nat) : Loop := { state := st, pending := pe, fn := fn, tmps := T, params := #[22], assign := sg, body := bd, defers := D }
def tF (gr gl gh : Nat) (v : Nat → Value) : Array Value := #[v 0, v 1, v 2, v 3, v 4, v 5, .pointer (some ⟨gr, 0, none⟩), .pointer (some ⟨gl, 0, none⟩), .pointer (some ⟨gh, 0, none⟩), v 9, v 10, v 11, v 12, v 13, v 14, v 15, v 16, v 17, v 18, v 19, v 20, v 21, v 22, v 23, v 24, v 25, v 26, v 27, v 28, v 29, v 30, v 31, v 32, v 33]

set_option maxRecDepth 100000 in
set_option maxHeartbeats 4000000 in
theorem c_iter (sg bd : Code) (hb : Tryd.f65.body.bind findRange = some (sg, bd)) (s : ByteArray) (r : Nat → Int) (hz : s.size ≤ 200000) (gr gl gh gq gs gn lp D cap : Nat) (Zl Zq : Obj) (hZ : SB Zq cap (vs8 (sb s))) (hcap : s.size ≤ cap) (fn : FuncId) (v : Nat → Value) (c : Ctx) (u : World)
    (M : Mem c [⟨gr, .cells (av 5 (w64 r)) 122⟩, ⟨gl, Zl⟩, ⟨gh, .cells (av 5 (w64 (sm s r 0))) 122⟩, ⟨gq, Zq⟩, ⟨gs, .cells (av 1 (fun _ => .slice (some ⟨gq, 0, none⟩) s.size cap)) 26⟩, ⟨gn, .cells (av 1 (fun _ => .int .i64 16)) 3⟩, ⟨D, .deferred (some [])⟩, ⟨lp, .loop (lpr .ready none fn (tF gr gl gh v) sg bd D)⟩] u) :
    Calls Tryd.prog 90 #[.func (.yield lp) #[] #[], .pointer (some ⟨gs, 0, none⟩), .pointer (some ⟨gn, 0, none⟩)] u fun e u' => (∃ v, e = .returned v) ∧ Mem c [⟨gr, .cells (av 5 (w64 r)) 122⟩, ⟨gl, Zl⟩, ⟨gh, .cells (av 5 (w64 (sm s r ((s.size + 15) / 16)))) 122⟩, ⟨gq, Zq⟩, ⟨gs, .cells (av 1 (fun _ => .slice (some ⟨gq, 0, none⟩) s.size cap)) 26⟩, ⟨gn, .cells (av 1 (fun _ => .int .i64 16)) 3⟩, ⟨D, .deferred (some [])⟩, ⟨lp, .loop (lpr .ready none fn (tF gr gl gh v) sg bd D)⟩] u' := by
  go_enter Tryd.func90, Tryd.ntmps90
  refine sq ?_
  refine wp_block ?_
  obtain ⟨N, hN⟩ : ∃ N, N = (s.size + 15) / 16 := ⟨_, rfl⟩
  rw [← hN]
  refine au_loop (fun j a u => ∃ v1 : Nat → Value, a = (fm ([.func (.yield lp) #[] #[], .pointer (some ⟨gs, 0, none⟩), .pointer (some ⟨gn, 0, none⟩), undef, .int .i64 ((16 * j : Nat) : Int)] ++ vr v1 5 26)) ∧ Mem c [⟨gr, .cells (av 5 (w64 r)) 122⟩, ⟨gl, Zl⟩, ⟨gh, .cells (av 5 (w64 (sm s r j))) 122⟩, ⟨gq, Zq⟩, ⟨gs, .cells (av 1 (fun _ => .slice (some ⟨gq, 0, none⟩) s.size cap)) 26⟩, ⟨gn, .cells (av 1 (fun _ => .int .i64 16)) 3⟩, ⟨D, .deferred (some [])⟩, ⟨lp, .loop (lpr .ready none fn (tF gr gl gh v) sg bd D)⟩] u) N (exS M) ?_ ?_
  · intro j a u0 hj hI
    clear M
    obtain ⟨v1, rfl, M⟩ := hI
    refine wp_seq ?_
    refine sR ?_
    refine rV 1 ?_
    refine ZE M 7 4 0 ?_
    refine rV 1 ?_
    refine ZT 9 (((16 * j : Nat) : Int) < ((s.size : Nat) : Int)) ?_
    refine nT ?_
    refine wp_cond_true (by kernel_rfl) ?_
    refine wp_skip ?_
    refine au_then ?_
    refine wp_seq ?_
    refine wp_block ?_
    refine wp_seq ?_
    refine rg_tail M 6 (by kernel_rfl) (by kernel_rfl) ?_
    simp only [List.take_succ_cons, List.take_zero]
    refine eE M 13 5 0 ?_
    refine eE M 14 4 0 ?_
    refine kR 1 ?_
    refine kH 16 (.slice (some ⟨gq, (0 + 16 * j), none⟩) (s.size - 16 * j) (cap - 16 * j)) (run_slL 26 5 Tryd.underlying26 inz5 _ _ rfl gq 0 s.size cap (by kernel_rfl) .i64 (16 * j) (by kernel_rfl) (by omega) (by omega)) ?_
    refine kR 1 ?_
    refine kH 18 (.int .i64 ((min 16 (s.size - 16 * j) : Nat) : Int)) (fun w => Eq.trans (b := .ok (.value (.int .i64 (if ((s.size - 16 * j : Nat) : Int) < (16 : Int) then ((s.size - 16 * j : Nat) : Int) else (16 : Int)))) w) (by kernel_rfl) (by rw [show (if ((s.size - 16 * j : Nat) : Int) < (16 : Int) then ((s.size - 16 * j : Nat) : Int) else (16 : Int)) = ((min 16 (s.size - 16 * j) : Nat) : Int) from min_if 16 (s.size - 16 * j)])) ?_
    refine kl_nil fun u1 M => ?_
    refine rV 1 ?_
    refine nT ?_
    refine wp_seq ?_
    refine rg_yieldN 10 (by kernel_rfl) (fun _ _ h => by obtain ⟨⟨_, e⟩, _⟩ := h; cases e) ?_
    simp only [List.take_succ_cons, List.take_zero, List.drop_succ_cons, List.drop_zero]
    refine rV 1 ?_
    refine ZE M 20 4 0 ?_
    refine rV 3 ?_
    refine ZI 24 (((16 * j : Nat) : Int) + ((min 16 (s.size - 16 * j) : Nat) : Int)) ((16 * j + min 16 (s.size - 16 * j) : Nat) : Int) ?_
    refine rV 2 ?_
    refine ZI 27 (((16 * j : Nat) : Int) + ((min 16 (s.size - 16 * j) : Nat) : Int)) ((16 * j + min 16 (s.size - 16 * j) : Nat) : Int) ?_
    refine pH 28 (.slice (some ⟨gq, (16 * j), none⟩) (min 16 (s.size - 16 * j)) (min 16 (s.size - 16 * j))) (fun w => Eq.trans (run_slM 26 5 Tryd.underlying26 inz5 _ _ _ _ rfl gq 0 s.size cap (by kernel_rfl) .i64 .i64 .i64 (16 * j) (16 * j + min 16 (s.size - 16 * j)) (by kernel_rfl) (by kernel_rfl) (by kernel_rfl) (by omega) (by omega) w) (by rw [Nat.zero_add, Nat.add_sub_cancel_left])) ?_
    refine nT ?_
    refine pl_yield lp (lpr .ready none fn (tF gr gl gh v) sg bd D) #[.slice (some ⟨gq, (16 * j), none⟩) (min 16 (s.size - 16 * j)) (min 16 (s.size - 16 * j))] (M.get 7 rfl) rfl rfl (by kernel_rfl) (fun _ => by kernel_rfl) (want_no rfl) ?_
    refine code_is1 (O := Tryd.f65.body.bind findRange) rfl hb ?_
    refine fr_is (b := (fm (vr v 0 6 ++ [.pointer (some ⟨gr, 0, none⟩), .pointer (some ⟨gl, 0, none⟩), .pointer (some ⟨gh, 0, none⟩)] ++ vr v 9 13 ++ [.slice (some ⟨gq, (16 * j), none⟩) (min 16 (s.size - 16 * j)) (min 16 (s.size - 16 * j))] ++ vr v 23 11))) (by kernel_rfl) ?_
    refine rr_lit (by kernel_rfl) (fun _ _ h => h) ?_
    refine rV 1 ?_
    refine nT ?_
    refine ⟨M.get 7 rfl, ?_⟩
    have M2 := M.putO 7 lp _ (.loop { lpr .ready none fn (tF gr gl gh v) sg bd D with state := .busy }) rfl
    refine fr_is (b := (fm (vr v 0 6 ++ [.pointer (some ⟨gr, 0, none⟩), .pointer (some ⟨gl, 0, none⟩), .pointer (some ⟨gh, 0, none⟩), .slice (some ⟨gq, (16 * j), none⟩) (min 16 (s.size - 16 * j)) (min 16 (s.size - 16 * j))] ++ vr v 10 12 ++ [.slice (some ⟨gq, (16 * j), none⟩) (min 16 (s.size - 16 * j)) (min 16 (s.size - 16 * j))] ++ vr v 23 11))) (by kernel_rfl) ?_
    refine r_body sg bd hb s r (sm s r j) j (by omega) gr gl gh gq cap lp Zl Zq hZ [⟨gs, .cells (av 1 (fun _ => .slice (some ⟨gq, 0, none⟩) s.size cap)) 26⟩, ⟨gn, .cells (av 1 (fun _ => .int .i64 16)) 3⟩, ⟨D, .deferred (some [])⟩, ⟨lp, .loop { lpr .ready none fn (tF gr gl gh v) sg bd D with state := .busy }⟩] (fun k_ => ([v 0, v 1, v 2, v 3, v 4, v 5, .pointer (some ⟨gr, 0, none⟩), .pointer (some ⟨gl, 0, none⟩), .pointer (some ⟨gh, 0, none⟩), .slice (some ⟨gq, (16 * j), none⟩) (min 16 (s.size - 16 * j)) (min 16 (s.size - 16 * j)), v 10, v 11, v 12, v 13, v 14, v 15, v 16, v 17, v 18, v 19, v 20, v 21, .slice (some ⟨gq, (16 * j), none⟩) (min 16 (s.size - 16 * j)) (min 16 (s.size - 16 * j)), v 23, v 24, v 25, v 26, v 27, v 28, v 29, v 30, v 31, v 32, v 33] : List Value).getD (k_ - 0) undef) c _ _ (fun _ _ h => h) (fun _ _ _ h => h) M2 ?_
    intro a9 u9 M3
    refine ⟨lpr .busy none fn (tF gr gl gh v) sg bd D, M3.get 7 rfl, ?_⟩
    have M4 := M3.putO 7 lp _ (.loop { lpr .busy none fn (tF gr gl gh v) sg bd D with state := .ready, pending := none }) rfl
    generalize u9.putObj lp _ = u8 at M4 ⊢
    clear M
    have M : Mem c [⟨gr, .cells (av 5 (w64 r)) 122⟩, ⟨gl, Zl⟩, ⟨gh, .cells (av 5 (w64 (sm s r (j + 1)))) 122⟩, ⟨gq, Zq⟩, ⟨gs, .cells (av 1 (fun _ => .slice (some ⟨gq, 0, none⟩) s.size cap)) 26⟩, ⟨gn, .cells (av 1 (fun _ => .int .i64 16)) 3⟩, ⟨D, .deferred (some [])⟩, ⟨lp, .loop (lpr .ready none fn (tF gr gl gh v) sg bd D)⟩] u8 := M4
    refine in_list (by kernel_rfl) (fun _ _ h => by obtain ⟨⟨_, e⟩, _⟩ := h; cases e) ?_
    refine rV 1 ?_
    refine nT ?_
    refine wp_cond_false (by kernel_rfl) ?_
    refine wp_skip ?_
    refine au_block ?_
    refine au_then ?_
    refine rg_lit ?_
    refine rV 1 ?_
    refine ZE M 11 5 0 ?_
    refine ZI 12 (((16 * j : Nat) : Int) + 16) ((16 * (j + 1) : Nat) : Int) ?_
    refine rV 1 ?_
    refine nT ?_
    exact exS M
  · intro a u0 hI
    clear M
    obtain ⟨v1, rfl, M⟩ := hI
    refine wp_seq ?_
    refine sR ?_
    refine rV 1 ?_
    refine ZE M 7 4 0 ?_
    refine rV 1 ?_
    refine ZF 9 (((16 * N : Nat) : Int) < ((s.size : Nat) : Int)) ?_
    refine nT ?_
    refine wp_cond_false (by kernel_rfl) ?_
    refine wp_exit ?_
    refine au_then_exit ?_
    refine au_then_exit ?_
    refine au_block_exit ?_
    exact bodyPost_end (v := .tuple #[]) (results_none Tryd.results90 _ _) (by kernel_rfl) ⟨⟨_, rfl⟩, M⟩

end Go.Proofs.YtenafinbaanicaaDoor.Pol
