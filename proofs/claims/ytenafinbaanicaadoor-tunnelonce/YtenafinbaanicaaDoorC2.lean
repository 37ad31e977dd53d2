/- A range over a function: the walk of a round, and of the statement; a builder beside other memory. -/
import Derived.Test.YtenafinbaanicaaDoorRep
import Derived.RangeFuncLeaves
import Derived.RangeFuncRecord
import Derived.OrdersIn
import Derived.TacticsIn
import Derived.LoopNIn
namespace Go.Proofs.YtenafinbaanicaaDoor
open Go.RowKit

open Go.Shelf
/-- Every function, every depth; a frame of this kind. -/
def FW (ro : Option Nat) : Fence := { Fence.wide with round := ro }
theorem fw_calls {ro : Option Nat} {n : Nat} {P : Program} {f : FuncId} {args : Array Value} {w : World} {R : Ending → World → Prop} (h : Calls P f args w R) : CallsIn (FW ro) n P f args w R := (callsIn_wide (n := n)).2 h
theorem fw_rows {ro : Option Nat} {n : Nat} {P : Program} {row : String} {args : Array Value} {w : World} {R : Value → World → Prop} (h : Rows P row args w R) : RowsIn (FW ro) n P row args w R :=
  fun c cs _ => let ⟨v, w', r, s⟩ := h c cs; ⟨v, w', r, stepsIn_wide.2 s⟩
section
variable {P : Program} {ops : Array Oper} {rest : List Oper} {o : Oper} {a : Act} {w : World} {Q : Exit → Act → World → Prop} {K : Act → World → Prop} {n : Nat} {ro : Option Nat}
theorem op_in (hd : ∀ c, o.op ≠ .defer c) (h : o.wp P a w K Q) : o.wpIn (FW ro) n P a w K Q := by
  refine ⟨fun _ _ => trivial, ?_⟩
  rw [Oper.semAt_eq _ _ _ hd]
  unfold Oper.wp at h
  generalize (execOp a.eval o).run P w = r at h
  cases r with
  | ok x w' =>
    cases x <;> simp only [Oper.upon] at h <;> simp only [Oper.uponIn]
    all_goals first
      | exact h
      | exact h.elim
      | exact ⟨fun e => by simp [FW, Fence.wide] at e, fw_calls h⟩
      | exact ⟨fun e => by simp [FW, Fence.wide] at e, fw_rows h⟩
  | halt x w' => cases x <;> simp only [Oper.upon] at h <;> simp only [Oper.uponIn] <;> exact h
def ndB (o : Oper) : Bool := match o.op with
  | .defer _ => false
  | _ => true
theorem nd_of (h : ndB o = true) : ∀ c, o.op ≠ .defer c := fun c e => by simp [ndB, e] at h
theorem list_in : ∀ (l : List Oper) (a : Act) (w : World), l.all ndB = true → (∀ a w, ¬ Q .outgrown a w) → wpList P ops Q l a w → wpListIn (FW ro) n P ops Q l a w
  | [], _, _, _, _, h => h
  | o :: l, a, w, hd, hQ, h => by
    simp only [List.all_cons, Bool.and_eq_true] at hd
    unfold wpList at h
    unfold wpListIn
    split
    · rename_i hw
      rw [if_pos hw] at h
      rcases h with h | ⟨_, a', w', h⟩
      · exact Oper.wpIn_mono (fun a w h => list_in l a w hd.2 hQ h) (op_in (nd_of hd.1) h)
      · exact absurd h (hQ a' w')
    · rename_i hw
      rw [if_neg hw] at h
      exact ⟨fun _ _ => trivial, list_in l _ _ hd.2 hQ h⟩
theorem list_in_then : ∀ (l : List Oper) (a : Act) (w : World), l.all ndB = true → (∀ a w, ¬ Q .outgrown a w) → wpList P ops (Exit.then (wpListIn (FW ro) n P ops Q rest) Q) l a w → wpListIn (FW ro) n P ops Q (l ++ rest) a w
  | [], _, _, _, _, h => h
  | o :: l, a, w, hd, hQ, h => by
    simp only [List.all_cons, Bool.and_eq_true] at hd
    unfold wpList at h
    rw [List.cons_append]
    unfold wpListIn
    split
    · rename_i hw
      rw [if_pos hw] at h
      rcases h with h | ⟨_, a', w', h⟩
      · exact Oper.wpIn_mono (fun a w h => list_in_then l a w hd.2 hQ h) (op_in (nd_of hd.1) (wp_unthen h))
      · exact absurd h (hQ a' w')
    · rename_i hw
      rw [if_neg hw] at h
      exact ⟨fun _ _ => trivial, list_in_then l _ _ hd.2 hQ h⟩
theorem any_in (hd : ∀ (i : Nat) (o : Oper), ops[i]? = some o → ndB o = true) (hQ : ∀ a w, ¬ Q .outgrown a w) {md : Region.Mode} : ∀ (fuel : Nat) (listed : Array Bool) (a : Act) (w : World), wpAny P md ops Q fuel listed a w → wpAnyIn (FW ro) n P md ops Q fuel listed a w
  | 0, _, _, _, h => h
  | fuel + 1, listed, a, w, h => ⟨h.1, fun i hi => by
    have h1 := h.2 i hi
    unfold wpOp at h1
    unfold wpOpIn
    cases ho : ops[i]? with
    | none =>
      simp only [ho] at h1 ⊢
      exact any_in hd hQ fuel _ _ _ h1
    | some o =>
      simp only [ho] at h1 ⊢
      split
      · rename_i hw
        rw [if_pos hw] at h1
        rcases h1 with h1 | ⟨_, a', w', h1⟩
        · exact Oper.wpIn_mono (fun a w h => any_in hd hQ fuel _ a w h) (op_in (nd_of (hd i o ho)) h1)
        · exact absurd h1 (hQ a' w')
      · rename_i hw
        rw [if_neg hw] at h1
        exact ⟨fun _ _ => trivial, any_in hd hQ fuel _ _ _ h1⟩⟩
/-- A round's code: regions. -/
theorem rr_lit {id : Nat} {l : List Oper} (hd : l.all ndB = true) (hQ : ∀ a w, ¬ Q .outgrown a w) (h : PL P l.toArray Q l a w) : (Code.region id l.toArray false).wpIn (FW ro) n P Q a w := wpIn_region_lit (list_in l a w hd hQ h.out)
theorem rr_held {c : Ctx} {L : List Blk} {id : Nat} {l : List Oper} (hd : l.all ndB = true) (hO : ∀ a w, ¬ Q .outgrown a w) (M : Mem c L w) (Ls : List Blk) (m : Nat) (hn : l.length = m + 1) (hm : P.follows .mixedOrders = true) (hB : (Region.sinkB .any l.toArray m && Region.chainB .any l.toArray m && Region.noSelect l.toArray) = true) (hQ : ∀ c a d v w, Q (.panic c) (Act.put a d v) w → Q (.panic c) a w)
    (h : ∀ w', Mem c L w' → HL P l.toArray Q (Mem c Ls) m (m + 1) (Array.replicate (m + 1) false) a w') : (Code.region id l.toArray true).wpIn (FW ro) n P Q a w := by
  simp only [Bool.and_eq_true] at hB
  have hsz : l.toArray.size = m + 1 := by simpa using hn
  have inv : HeadInv .any l.toArray m (Array.replicate (m + 1) false) :=
    ⟨by simpa using hn.symm, fun j oj _ hl => (by rw [getD_replicate_false] at hl; cases hl), fun t _ ht => getD_in (by simp; omega) (getD_replicate_false _ _)⟩
  have h2 := (h w.drew M.drew).out hQ ⟨hB.1.1, hB.1.2, by omega, hB.2⟩ inv
  refine wpIn_region_any hm (any_in (fun i o ho => ?_) hO _ _ _ _ (wpAny_of_L (S := Mem c Ls) (n := m) _ _ _ _ ?_))
  · have h3 : l[i]? = some o := by simpa using ho
    exact List.all_eq_true.1 hd o (List.mem_of_getElem? h3)
  · rw [hsz]
    exact h2
theorem rr_ghost {c : Code} (I : Nat → Act → World → Prop) (n₀ : Nat) (h₀ : I n₀ a w)
    (round : ∀ m a w, I m a w → c.wpIn (FW ro) n P (Exit.then (fun a' w' => ∃ m', m' < m ∧ I m' a' w') Q) a w) : (Code.loop c).wpIn (FW ro) n P Q a w := by
  refine wpIn_loop (fun a w => ∃ m, I m a w) (fun a w => leastOf (fun m => I m a w)) ⟨n₀, h₀⟩ ?_
  intro a w hI
  refine wpIn_mono (round _ a w (leastOf_spec hI).1) ?_
  intro e a' w' hq
  cases e with
  | normal =>
    obtain ⟨m', hlt, hI'⟩ := hq
    exact show (∃ m, I m a' w') ∧ leastOf (fun m => I m a' w') < leastOf (fun m => I m a w) from ⟨⟨m', hI'⟩, Nat.lt_of_le_of_lt ((leastOf_spec ⟨m', hI'⟩).2 m' hI') hlt⟩
  | exit id => exact hq
  | goto l => exact hq
  | ret => exact hq
  | panic ch => exact hq
  | outgrown => exact hq
theorem rr_loop {c : Code} (I : Nat → Act → World → Prop) (N : Nat) (h0 : I 0 a w) (round : ∀ j a w, j < N → I j a w → c.wpIn (FW ro) n P (Exit.then (I (j + 1)) Q) a w) (last : ∀ a w, I N a w → c.wpIn (FW ro) n P (Exit.then (fun _ _ => False) Q) a w) : (Code.loop c).wpIn (FW ro) n P Q a w := by
  refine rr_ghost (fun n a w => n ≤ N ∧ I (N - n) a w) N ⟨Nat.le_refl _, by rw [Nat.sub_self]; exact h0⟩ fun n a w ⟨hn, hI⟩ => ?_
  cases n with
  | zero =>
    rw [Nat.sub_zero] at hI
    refine wpIn_mono (last a w hI) fun e a' w' hq => ?_
    cases e <;> first | exact hq | exact hq.elim
  | succ n =>
    refine wpIn_mono (round (N - (n + 1)) a w (by omega) hI) fun e a' w' hq => ?_
    rw [show N - (n + 1) + 1 = N - n by omega] at hq
    cases e <;> first | exact hq | exact ⟨n, by omega, by omega, hq⟩

/-- How a round may be left. -/
def rdPost (lp : Nat) (d : Option Tmp) (a : Act) (Q : Exit → Act → World → Prop) : Exit → Act → World → Prop
  | .normal, _, u => ∃ r, u.heap[lp]? = some (.loop r) ∧ Q .normal (a.put d (.bool true)) (u.putObj lp (.loop { r with state := .ready, pending := none }))
  | .exit i, _, u => ∃ r, u.heap[lp]? = some (.loop r) ∧ Q .normal (a.put d (.bool false)) (u.putObj lp (.loop { r with state := .done, pending := some (.exit i) }))
  | .ret, _, u => ∃ r, u.heap[lp]? = some (.loop r) ∧ Q .normal (a.put d (.bool false)) (u.putObj lp (.loop { r with state := .done, pending := some .ret }))
  | _, _, _ => False
/-- The function that is ranged over calls the loop's body. -/
theorem pl_yield (lp : Nat) (r : Loop) (args : Array Value) (hl : w.heap[lp]? = some (.loop r)) (hs : args.size = r.params.size) (hst : r.state = .ready) (hd : ndB o = true) (hrun : ∀ w, (execOp a.eval o).run P w = (Instr.yield lp args).run P w) (hw : Region.wanted o (yielded ops a.tmps) = true)
    (h : r.assign.wpIn (FW (some lp)) 0 P (Exit.then (fun a1 w1 => w1.heap[lp]? = some (.loop r) ∧ r.body.wpIn (FW (some lp)) 0 P (rdPost lp o.dst a Q) a1 (w1.putObj lp (.loop { r with state := .busy }))) (fun _ _ _ => False)) { tmps := (r.params.zip args).foldl (fun t (p, v) => t.setIfInBounds p v) r.tmps, defers := [] } w) :
    wpListIn (FW none) 0 P ops Q [o] a w := by
  unfold wpListIn
  rw [if_pos hw]
  refine ⟨fun _ _ => trivial, ?_⟩
  rw [Oper.semAt_eq _ _ _ (nd_of hd), hrun, run_yield hl hs, Oper.uponIn_round]
  refine ⟨fun e => by simp [FW, Fence.wide] at e, ?_⟩
  refine roundIn_of_wpIn (F := FW none) trivial ?_
  refine wpIn_mono h ?_
  rintro e a1 w1 hq
  cases e with
  | normal =>
    obtain ⟨h1, h2⟩ := hq
    refine ⟨_, run_beginRound h1 hst, ?_⟩
    refine wpIn_mono h2 ?_
    rintro e a2 w2 hq
    cases e with
    | normal =>
      obtain ⟨r2, h3, h4⟩ := hq
      exact ⟨_, _, run_endRound none h3, h4⟩
    | ret =>
      obtain ⟨r2, h3, h4⟩ := hq
      exact ⟨_, _, run_endRound _ h3, h4⟩
    | exit i =>
      obtain ⟨r2, h3, h4⟩ := hq
      exact ⟨_, _, run_endRound _ h3, h4⟩
    | goto i => exact hq.elim
    | panic c => exact hq.elim
    | outgrown => exact hq.elim
  | ret => exact hq.elim
  | exit i => exact hq.elim
  | goto i => exact hq.elim
  | panic c => exact hq.elim
  | outgrown => exact hq.elim
/-- A region that ends in a call of yield. -/
theorem rg_yield {id : Nat} {l : List Oper} (pre : List Oper) (o : Oper) (hl : l = pre ++ [o]) (hd : pre.all ndB = true) (hQ : ∀ a w, ¬ Q .outgrown a w) (h : PL P l.toArray (Exit.then (wpListIn (FW none) 0 P l.toArray Q [o]) Q) pre a w) : (Code.region id l.toArray false).wp P Q a w := by
  refine (wpIn_wide (n := 0)).1 ?_
  refine wpIn_region_lit (F := FW none) ?_
  have h2 := list_in_then (ro := none) (n := 0) pre a w hd hQ h.out
  rw [← hl] at h2
  exact h2
/-- The statement. -/
theorem wp_range {g : Operand} {ps : Array Tmp} {assign body : Code} {gf : FuncId} {lb : Array Value} (hg : a.eval g = .func (.func gf) #[] lb) (eg : ∀ args w, (callFunc gf args).run P w = .ok (.enter gf args) w)
    (h : ∀ fn, Calls P gf (#[.func (.yield (w.heap.size + 1)) #[] #[]] ++ lb) ((w.alloc (.deferred (some []))).alloc (.loop { state := .ready, pending := none, fn, tmps := a.tmps, params := ps, assign, body, defers := w.heap.size }))
      fun e w3 => (∃ v, e = .returned v) ∧ ∃ r, w3.heap[w.heap.size + 1]? = some (.loop r) ∧ r.state ≠ .busy ∧
        (match r.pending with
         | none => Q .normal { a with defers := { target := .collected w.heap.size, args := #[] } :: a.defers } (w3.putObj (w.heap.size + 1) (.loop { r with state := .exhausted }))
         | some c => c.wp P Q { a with defers := { target := .collected w.heap.size, args := #[] } :: a.defers } (w3.putObj (w.heap.size + 1) (.loop { r with state := .exhausted })))) :
    (Code.rangeFunc g ps assign body).wp P Q a w := by
  refine (wpIn_wide (n := 0)).1 ?_
  refine wpIn_rangeFunc ?_
  intro fn _
  refine ⟨w.heap.size + 1, [{ target := .collected w.heap.size, args := #[] }], ((w.alloc (.deferred (some []))).alloc (.loop { state := .ready, pending := none, fn, tmps := a.tmps, params := ps, assign, body, defers := w.heap.size })), { target := .fn (.func gf) lb, args := #[.func (.yield (w.heap.size + 1)) #[] #[]] }, ((w.alloc (.deferred (some []))).alloc (.loop { state := .ready, pending := none, fn, tmps := a.tmps, params := ps, assign, body, defers := w.heap.size })), gf, #[.func (.yield (w.heap.size + 1)) #[] #[]] ++ lb, ((w.alloc (.deferred (some []))).alloc (.loop { state := .ready, pending := none, fn, tmps := a.tmps, params := ps, assign, body, defers := w.heap.size })), run_enterLoop_outer _ _ _ _ _, ?_, fun _ _ => trivial, ?_, fun e => by simp [Fence.wide] at e, ?_⟩
  · simp only [resolve, hg]
    simp [go_sem]
  · simp [invoke, go_sem, eg]
  · refine (callsIn_wide (n := 0 - 1)).2 ((h fn).mono ?_)
    rintro e w3 ⟨⟨v, rfl⟩, r, h1, h2, h3⟩
    refine ⟨r.pending, _, run_endLoop h1 h2, ?_⟩
    cases hp : r.pending with
    | none =>
      rw [hp] at h3
      exact h3
    | some c =>
      rw [hp] at h3
      exact wpIn_wide.2 h3
/-- A function that holds such a statement leaves. -/
theorem marks_ret {fn : Func} {R : Ending → World → Prop} {D : Nat} {v : Value} (hdf : a.defers = [{ target := .collected D, args := #[] }]) (hD : w.heap[D]? = some (.deferred (some []))) (hr : ∀ w, (results fn a.tmps).run P w = .ok v w) (h : R (.returned v) (w.putObj D (.deferred none))) : bodyPostM Fence.wide 0 P fn R .ret a w := by
  show LeavesInM Fence.wide 0 P fn a.tmps R a.defers .returning w
  rw [hdf]
  refine ⟨by simp, .inl ⟨D, _, rfl, run_takeDeferred hD, ?_⟩⟩
  exact ⟨v, hr _, h⟩
end

/-- No row of bytes. -/
def NR (Z : Obj) : Prop := ∀ c fz, Z ≠ .cells c 5 fz
/-- A builder, and the blocks beside it, of a call that is under way. -/
structure ST (w : World) (k : Nat) (l : List UInt8) (L : List Blk) (u : World) : Prop where
  bel : Below w.heap.size w u
  hk : w.heap.size ≤ k
  isb : Lib.IsBuilderF 109 5 k k (Lib.byteCells l) u
  at_ : ∀ b ∈ L, u.heap[b.g]? = some b.Z
  ne : ∀ b ∈ L, b.g ≠ k
  nr : ∀ b ∈ L, NR b.Z
  ge : ∀ b ∈ L, w.heap.size ≤ b.g
  nodup : (L.map Blk.g).Nodup
theorem ST.mem {w u : World} {k : Nat} {l : List UInt8} {L : List Blk} (h : ST w k l L u) (hL : Laid w) : Mem ⟨u, L.map Blk.g⟩ L u :=
  ⟨grown_refl _ _, h.at_, fun b hb => .inr (List.mem_map_of_mem hb), h.nodup, below_laid h.bel hL, fun x e => by
    obtain ⟨b, hb, e⟩ := List.mem_map.1 e
    have := h.ge b hb
    have := hL.lt
    omega⟩
theorem isf_lt {w : World} {T e : TypeId} {B b : Nat} {xs : List Value} (h : Lib.IsBuilderF T e B b xs w) : b < w.heap.size := h.elim Lib.BuilderAtF.lt Lib.BuilderAtF.lt
theorem owf_keep {w w' : World} {B : Nat} {e : TypeId} {v : Value} {n : Nat} {xs : List Value} (h : w.ownsRowF B e 1 v n xs) (hb : ∀ (g : Nat) (c : Array Value) (fz : Nat × Nat), w.heap[g]? = some (Obj.cells c e fz) → w'.heap[g]? = w.heap[g]?) : w'.ownsRowF B e 1 v n xs := by
  obtain ⟨h1, h2⟩ := h
  refine ⟨h1, ?_⟩
  rcases h2 with h2 | ⟨g, cap, cur, fz, h3, h4, h5, h6⟩
  · exact .inl h2
  · exact .inr ⟨g, cap, cur, fz, h3, h4, by rw [hb g cur fz h5]; exact h5, h6⟩
theorem batf_keep {w w' : World} {T e : TypeId} {B b : Nat} {p : Value} {xs : List Value} (h : Lib.BuilderAtF T e B b p xs w) (hk : w'.heap[b]? = w.heap[b]?) (hb : ∀ (g : Nat) (c : Array Value) (fz : Nat × Nat), w.heap[g]? = some (Obj.cells c e fz) → w'.heap[g]? = w.heap[g]?) : Lib.BuilderAtF T e B b p xs w' := by
  obtain ⟨h1, v, h2, h3, h4⟩ := h
  exact ⟨h1, v, by rw [hk]; exact h2, owf_keep h3 hb, h4⟩
theorem isf_keep {w w' : World} {T e : TypeId} {B b : Nat} {xs : List Value} (h : Lib.IsBuilderF T e B b xs w) (hk : w'.heap[b]? = w.heap[b]?) (hb : ∀ (g : Nat) (c : Array Value) (fz : Nat × Nat), w.heap[g]? = some (Obj.cells c e fz) → w'.heap[g]? = w.heap[g]?) : Lib.IsBuilderF T e B b xs w' := h.imp (batf_keep · hk hb) (batf_keep · hk hb)
theorem ST.next {w u u' : World} {k : Nat} {l : List UInt8} {L L' : List Blk} (h : ST w k l L u) (M : Mem ⟨u, L.map Blk.g⟩ L' u') (hn : ∀ b ∈ L', NR b.Z) : ST w k l L' u' := by
  have hkl := isf_lt h.isb
  have hsz := h.bel.size
  have hr : ∀ g, g ∈ L.map Blk.g → g ≠ k ∧ w.heap.size ≤ g ∧ ∃ Z, u.heap[g]? = some Z ∧ NR Z := fun g hg => by
    obtain ⟨b, hb, rfl⟩ := List.mem_map.1 hg
    exact ⟨h.ne b hb, h.ge b hb, b.Z, h.at_ b hb, h.nr b hb⟩
  have ho : Grw u u' (L.map Blk.g) := M.old
  refine ⟨h.bel.trans ⟨ho.os, ho.tape, ho.output, ho.size, fun j hj => ho.block j (by omega) fun hm => ?_⟩, h.hk, isf_keep h.isb (ho.block k hkl fun hm => (hr k hm).1 rfl) (fun g c fz hg => ho.block g (Array.getElem?_eq_some_iff.1 hg).1 fun hm => ?_), M.at_, fun b hb e => ?_, hn, fun b hb => ?_, M.nodup⟩
  · have := (hr j hm).2.1
    omega
  · obtain ⟨_, _, Z, h1, h2⟩ := hr g hm
    rw [hg] at h1
    exact h2 c fz (Option.some.inj h1).symm
  · rcases M.ge b hb with h1 | h1
    · have h1 : u.heap.size ≤ b.g := h1
      omega
    · exact (hr _ h1).1 e
  · rcases M.ge b hb with h1 | h1
    · have h1 : u.heap.size ≤ b.g := h1
      omega
    · exact (hr _ h1).2.1
theorem ST.perm {w u : World} {k : Nat} {l : List UInt8} {L L' : List Blk} (h : ST w k l L u) (hp : L.Perm L') : ST w k l L' u :=
  ⟨h.bel, h.hk, h.isb, fun b hb => h.at_ b (hp.mem_iff.2 hb), fun b hb => h.ne b (hp.mem_iff.2 hb), fun b hb => h.nr b (hp.mem_iff.2 hb), fun b hb => h.ge b (hp.mem_iff.2 hb), (hp.map _).nodup_iff.1 h.nodup⟩
theorem ST.drop {w u : World} {k : Nat} {l : List UInt8} {L L' : List Blk} (h : ST w k l L u) (hp : L'.Sublist L) : ST w k l L' u :=
  ⟨h.bel, h.hk, h.isb, fun b hb => h.at_ b (hp.subset hb), fun b hb => h.ne b (hp.subset hb), fun b hb => h.nr b (hp.subset hb), fun b hb => h.ge b (hp.subset hb), h.nodup.sublist (hp.map _)⟩
theorem cells_one (l : List UInt8) (c : Int) (h0 : 0 ≤ c) (h1 : c < 256) : Lib.byteCells (l ++ [UInt8.ofNat c.toNat]) = Lib.byteCells l ++ [.int .u8 c] := by
  rw [Lib.byteCells_append]
  congr 1
  have e : (UInt8.ofNat c.toNat).toNat = c.toNat := by
    rw [UInt8.toNat_ofNat']
    omega
  show [Value.int .u8 ((UInt8.ofNat c.toNat).toNat : Int)] = _
  rw [e]
  congr 2
  omega
theorem ST.write {w u : World} {k : Nat} {l : List UInt8} {L : List Blk} (h : ST w k l L u) (c : Int) (h0 : 0 ≤ c) (h1 : c < 256) (hl : l.length < 1000000) : Calls Tryd.prog 71 #[.pointer (some ⟨k, 0, none⟩), .int .u8 c] u fun r u' => r = .returned .nilIface ∧ ST w k (l ++ [UInt8.ofNat c.toNat]) L u' := by
  have hkl := isf_lt h.isb
  have hlen : (Lib.byteCells l).length = l.length := Lib.byteCells_length l
  refine (Any.Builder_WriteByte_k (P := Tryd.prog) (ρ := repRen) lays167 repExtra k k (Lib.byteCells l) c u h.isb (by omega) (by omega)).mono ?_
  rintro r u' ⟨rfl, h2, h3, h4⟩
  have hat : ∀ b ∈ L, u'.heap[b.g]? = some b.Z := fun b hb => h4 b.g b.Z (h.at_ b hb) (fun e => h.ne b hb (Option.some.inj e)) (fun cs fz e => h.nr b hb cs fz e)
  exact ⟨rfl, h.bel.trans (h3.mono h.hk), h.hk, .inr (by rw [cells_one l c h0 h1]; exact h2), hat, h.ne, h.nr, h.ge, h.nodup⟩
theorem ST.str {w u : World} {k : Nat} {l : List UInt8} {L : List Blk} (h : ST w k l L u) : Calls Tryd.prog 72 #[.pointer (some ⟨k, 0, none⟩)] u fun r u' => r = .returned (.string ⟨l.toArray⟩) ∧ ST w k l L u' := by
  have hkl := isf_lt h.isb
  refine (Any.Builder_String_any_k (P := Tryd.prog) (ρ := repRen) lays169 repExtra k k l u h.isb (by omega)).mono ?_
  rintro r u' ⟨rfl, h2, h3, h4⟩
  have hat : ∀ b ∈ L, u'.heap[b.g]? = some b.Z := fun b hb => h4 b.g b.Z (h.at_ b hb) (fun e => h.ne b hb (Option.some.inj e)) (fun cs fz e => h.nr b hb cs fz e)
  exact ⟨rfl, h.bel.trans (h3.mono h.hk), h.hk, h2, hat, h.ne, h.nr, h.ge, h.nodup⟩
theorem ST.put {w u : World} {k : Nat} {l : List UInt8} {L : List Blk} (h : ST w k l L u) (hL : Laid w) (i g : Nat) (Z Z' : Obj) (hi : L[i]? = some ⟨g, Z⟩) (hz : NR Z') : ST w k l (L.set i ⟨g, Z'⟩) (u.putObj g Z') := by
  have hg : u.heap[g]? = some Z := h.at_ _ (List.mem_of_getElem? hi)
  have hlt : g < u.heap.size := (Array.getElem?_eq_some_iff.1 hg).1
  have hu : Grw u (u.putObj g Z') [g] := ⟨rfl, rfl, rfl, by simp, fun j _ hj => World.putObj_heap_other (by simpa using hj)⟩
  refine h.next ((h.mem hL).put i ⟨g, Z⟩ hi Z' hu (World.putObj_heap_same hlt)) fun b hb => ?_
  rcases List.mem_or_eq_of_mem_set hb with h1 | h1
  · exact h.nr b h1
  · rw [h1]
    exact hz

end Go.Proofs.YtenafinbaanicaaDoor
