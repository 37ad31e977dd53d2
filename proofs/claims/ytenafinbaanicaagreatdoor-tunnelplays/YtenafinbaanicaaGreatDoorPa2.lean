/- Parts of the proof of TunnelPlays: C2, C3, C4, C5, C6, C7, C8, C9, A0, A1, A2, P0, P1, P2, P5. -/
import Derived.Test.YtenafinbaanicaaGreatDoorPa1
import Derived.RangeFuncLeaves
import Derived.RangeFuncRecord
import Derived.OrdersIn
import Derived.TacticsIn
import Derived.LoopNIn
import Derived.Lib.FrozenHead2
namespace Go.Proofs.YtenafinbaanicaaGreatDoor
open Go.RowKit

open Go.Shelf
/-- Every function, every depth; a frame of this kind. -/
def FW (ro : Option Nat) : Fence := { Fence.wide with round := ro }
theorem fw_calls {ro : Option Nat} {n : Nat} {P : Program} {f : FuncId} {args : Array Value} {w : World} {R : Ending → World → Prop} (h : Calls P f args w R) : CallsIn (FW ro) n P f args w R := (callsIn_wide (n := n)).2 h
theorem fw_rows {ro : Option Nat} {n : Nat} {P : Program} {row : String} {args : Array Value} {w : World} {R : Value → World → Prop} (h : Rows P row args w R) : RowsIn (FW ro) n P row args w R :=
  fun c cs _ => let ⟨v, w', r, s⟩ := h c cs; ⟨v, w', r, stepsIn_wide.2 s⟩
section
variable {P : Program} {ops : Array Oper} {rest : List Oper} {o : Oper} {a : Act} {w : World} {Q : Exit → Act → World → Prop} {K : Act → World → Prop} {n : Nat} {ro : Option Nat}
theorem op_in (hd : ∀ c, o.op ≠ .defer c) (h : o.wp P a w K Q) : o.wpIn (FW ro) n P a w K Q := by
  refine ⟨fun _ _ => trivial, ?_⟩
  rw [Oper.semAt_eq _ _ _ hd]
  unfold Oper.wp at h
  generalize (execOp a.eval o).run P w = r at h
  cases r with
  | ok x w' =>
    cases x <;> simp only [Oper.upon] at h <;> simp only [Oper.uponIn]
    all_goals first
      | exact h
      | exact h.elim
      | exact ⟨fun e => by simp [FW, Fence.wide] at e, fw_calls h⟩
      | exact ⟨fun e => by simp [FW, Fence.wide] at e, fw_rows h⟩
  | halt x w' => cases x <;> simp only [Oper.upon] at h <;> simp only [Oper.uponIn] <;> exact h
def ndB (o : Oper) : Bool := match o.op with
  | .defer _ => false
  | _ => true
theorem nd_of (h : ndB o = true) : ∀ c, o.op ≠ .defer c := fun c e => by simp [ndB, e] at h
theorem list_in : ∀ (l : List Oper) (a : Act) (w : World), l.all ndB = true → (∀ a w, ¬ Q .outgrown a w) → wpList P ops Q l a w → wpListIn (FW ro) n P ops Q l a w
  | [], _, _, _, _, h => h
  | o :: l, a, w, hd, hQ, h => by
    simp only [List.all_cons, Bool.and_eq_true] at hd
    unfold wpList at h
    unfold wpListIn
    split
    · rename_i hw
      rw [if_pos hw] at h
      rcases h with h | ⟨_, a', w', h⟩
      · exact Oper.wpIn_mono (fun a w h => list_in l a w hd.2 hQ h) (op_in (nd_of hd.1) h)
      · exact absurd h (hQ a' w')
    · rename_i hw
      rw [if_neg hw] at h
      exact ⟨fun _ _ => trivial, list_in l _ _ hd.2 hQ h⟩
theorem list_in_then : ∀ (l : List Oper) (a : Act) (w : World), l.all ndB = true → (∀ a w, ¬ Q .outgrown a w) → wpList P ops (Exit.then (wpListIn (FW ro) n P ops Q rest) Q) l a w → wpListIn (FW ro) n P ops Q (l ++ rest) a w
  | [], _, _, _, _, h => h
  | o :: l, a, w, hd, hQ, h => by
    simp only [List.all_cons, Bool.and_eq_true] at hd
    unfold wpList at h
    rw [List.cons_append]
    unfold wpListIn
    split
    · rename_i hw
      rw [if_pos hw] at h
      rcases h with h | ⟨_, a', w', h⟩
      · exact Oper.wpIn_mono (fun a w h => list_in_then l a w hd.2 hQ h) (op_in (nd_of hd.1) (wp_unthen h))
      · exact absurd h (hQ a' w')
    · rename_i hw
      rw [if_neg hw] at h
      exact ⟨fun _ _ => trivial, list_in_then l _ _ hd.2 hQ h⟩
theorem any_in (hd : ∀ (i : Nat) (o : Oper), ops[i]? = some o → ndB o = true) (hQ : ∀ a w, ¬ Q .outgrown a w) {md : Region.Mode} : ∀ (fuel : Nat) (listed : Array Bool) (a : Act) (w : World), wpAny P md ops Q fuel listed a w → wpAnyIn (FW ro) n P md ops Q fuel listed a w
  | 0, _, _, _, h => h
  | fuel + 1, listed, a, w, h => ⟨h.1, fun i hi => by
    have h1 := h.2 i hi
    unfold wpOp at h1
    unfold wpOpIn
    cases ho : ops[i]? with
    | none =>
      simp only [ho] at h1 ⊢
      exact any_in hd hQ fuel _ _ _ h1
    | some o =>
      simp only [ho] at h1 ⊢
      split
      · rename_i hw
        rw [if_pos hw] at h1
        rcases h1 with h1 | ⟨_, a', w', h1⟩
        · exact Oper.wpIn_mono (fun a w h => any_in hd hQ fuel _ a w h) (op_in (nd_of (hd i o ho)) h1)
        · exact absurd h1 (hQ a' w')
      · rename_i hw
        rw [if_neg hw] at h1
        exact ⟨fun _ _ => trivial, any_in hd hQ fuel _ _ _ h1⟩⟩
/-- A round's code: regions. -/
theorem rr_lit {id : Nat} {l : List Oper} (hd : l.all ndB = true) (hQ : ∀ a w, ¬ Q .outgrown a w) (h : PL P l.toArray Q l a w) : (Code.region id l.toArray false).wpIn (FW ro) n P Q a w := wpIn_region_lit (list_in l a w hd hQ h.out)
theorem rr_held {c : Ctx} {L : List Blk} {id : Nat} {l : List Oper} (hd : l.all ndB = true) (hO : ∀ a w, ¬ Q .outgrown a w) (M : Mem c L w) (Ls : List Blk) (m : Nat) (hn : l.length = m + 1) (hm : P.follows .mixedOrders = true) (hB : (Region.sinkB .any l.toArray m && Region.chainB .any l.toArray m && Region.noSelect l.toArray) = true) (hQ : ∀ c a d v w, Q (.panic c) (Act.put a d v) w → Q (.panic c) a w)
    (h : ∀ w', Mem c L w' → HL P l.toArray Q (Mem c Ls) m (m + 1) (Array.replicate (m + 1) false) a w') : (Code.region id l.toArray true).wpIn (FW ro) n P Q a w := by
  simp only [Bool.and_eq_true] at hB
  have hsz : l.toArray.size = m + 1 := by simpa using hn
  have inv : HeadInv .any l.toArray m (Array.replicate (m + 1) false) :=
    ⟨by simpa using hn.symm, fun j oj _ hl => (by rw [getD_replicate_false] at hl; cases hl), fun t _ ht => getD_in (by simp; omega) (getD_replicate_false _ _)⟩
  have h2 := (h w.drew M.drew).out hQ ⟨hB.1.1, hB.1.2, by omega, hB.2⟩ inv
  refine wpIn_region_any hm (any_in (fun i o ho => ?_) hO _ _ _ _ (wpAny_of_L (S := Mem c Ls) (n := m) _ _ _ _ ?_))
  · have h3 : l[i]? = some o := by simpa using ho
    exact List.all_eq_true.1 hd o (List.mem_of_getElem? h3)
  · rw [hsz]
    exact h2
theorem rr_ghost {c : Code} (I : Nat → Act → World → Prop) (n₀ : Nat) (h₀ : I n₀ a w)
    (round : ∀ m a w, I m a w → c.wpIn (FW ro) n P (Exit.then (fun a' w' => ∃ m', m' < m ∧ I m' a' w') Q) a w) : (Code.loop c).wpIn (FW ro) n P Q a w := by
  refine wpIn_loop (fun a w => ∃ m, I m a w) (fun a w => leastOf (fun m => I m a w)) ⟨n₀, h₀⟩ ?_
  intro a w hI
  refine wpIn_mono (round _ a w (leastOf_spec hI).1) ?_
  intro e a' w' hq
  cases e with
  | normal =>
    obtain ⟨m', hlt, hI'⟩ := hq
    exact show (∃ m, I m a' w') ∧ leastOf (fun m => I m a' w') < leastOf (fun m => I m a w) from ⟨⟨m', hI'⟩, Nat.lt_of_le_of_lt ((leastOf_spec ⟨m', hI'⟩).2 m' hI') hlt⟩
  | exit id => exact hq
  | goto l => exact hq
  | ret => exact hq
  | panic ch => exact hq
  | outgrown => exact hq
theorem rr_loop {c : Code} (I : Nat → Act → World → Prop) (N : Nat) (h0 : I 0 a w) (round : ∀ j a w, j < N → I j a w → c.wpIn (FW ro) n P (Exit.then (I (j + 1)) Q) a w) (last : ∀ a w, I N a w → c.wpIn (FW ro) n P (Exit.then (fun _ _ => False) Q) a w) : (Code.loop c).wpIn (FW ro) n P Q a w := by
  refine rr_ghost (fun n a w => n ≤ N ∧ I (N - n) a w) N ⟨Nat.le_refl _, by rw [Nat.sub_self]; exact h0⟩ fun n a w ⟨hn, hI⟩ => ?_
  cases n with
  | zero =>
    rw [Nat.sub_zero] at hI
    refine wpIn_mono (last a w hI) fun e a' w' hq => ?_
    cases e <;> first | exact hq | exact hq.elim
  | succ n =>
    refine wpIn_mono (round (N - (n + 1)) a w (by omega) hI) fun e a' w' hq => ?_
    rw [show N - (n + 1) + 1 = N - n by omega] at hq
    cases e <;> first | exact hq | exact ⟨n, by omega, by omega, hq⟩

/-- How a round may be left. -/
def rdPost (lp : Nat) (d : Option Tmp) (a : Act) (Q : Exit → Act → World → Prop) : Exit → Act → World → Prop
  | .normal, _, u => ∃ r, u.heap[lp]? = some (.loop r) ∧ Q .normal (a.put d (.bool true)) (u.putObj lp (.loop { r with state := .ready, pending := none }))
  | .exit i, _, u => ∃ r, u.heap[lp]? = some (.loop r) ∧ Q .normal (a.put d (.bool false)) (u.putObj lp (.loop { r with state := .done, pending := some (.exit i) }))
  | .ret, _, u => ∃ r, u.heap[lp]? = some (.loop r) ∧ Q .normal (a.put d (.bool false)) (u.putObj lp (.loop { r with state := .done, pending := some .ret }))
  | _, _, _ => False
/-- The function that is ranged over calls the loop's body. -/
theorem pl_yield (lp : Nat) (r : Loop) (args : Array Value) (hl : w.heap[lp]? = some (.loop r)) (hs : args.size = r.params.size) (hst : r.state = .ready) (hd : ndB o = true) (hrun : ∀ w, (execOp a.eval o).run P w = (Instr.yield lp args).run P w) (hw : Region.wanted o (yielded ops a.tmps) = true)
    (h : r.assign.wpIn (FW (some lp)) 0 P (Exit.then (fun a1 w1 => w1.heap[lp]? = some (.loop r) ∧ r.body.wpIn (FW (some lp)) 0 P (rdPost lp o.dst a Q) a1 (w1.putObj lp (.loop { r with state := .busy }))) (fun _ _ _ => False)) { tmps := (r.params.zip args).foldl (fun t (p, v) => t.setIfInBounds p v) r.tmps, defers := [] } w) :
    wpListIn (FW none) 0 P ops Q [o] a w := by
  unfold wpListIn
  rw [if_pos hw]
  refine ⟨fun _ _ => trivial, ?_⟩
  rw [Oper.semAt_eq _ _ _ (nd_of hd), hrun, run_yield hl hs, Oper.uponIn_round]
  refine ⟨fun e => by simp [FW, Fence.wide] at e, ?_⟩
  refine roundIn_of_wpIn (F := FW none) trivial ?_
  refine wpIn_mono h ?_
  rintro e a1 w1 hq
  cases e with
  | normal =>
    obtain ⟨h1, h2⟩ := hq
    refine ⟨_, run_beginRound h1 hst, ?_⟩
    refine wpIn_mono h2 ?_
    rintro e a2 w2 hq
    cases e with
    | normal =>
      obtain ⟨r2, h3, h4⟩ := hq
      exact ⟨_, _, run_endRound none h3, h4⟩
    | ret =>
      obtain ⟨r2, h3, h4⟩ := hq
      exact ⟨_, _, run_endRound _ h3, h4⟩
    | exit i =>
      obtain ⟨r2, h3, h4⟩ := hq
      exact ⟨_, _, run_endRound _ h3, h4⟩
    | goto i => exact hq.elim
    | panic c => exact hq.elim
    | outgrown => exact hq.elim
  | ret => exact hq.elim
  | exit i => exact hq.elim
  | goto i => exact hq.elim
  | panic c => exact hq.elim
  | outgrown => exact hq.elim
/-- A region that ends in a call of yield. -/
theorem rg_yield {id : Nat} {l : List Oper} (pre : List Oper) (o : Oper) (hl : l = pre ++ [o]) (hd : pre.all ndB = true) (hQ : ∀ a w, ¬ Q .outgrown a w) (h : PL P l.toArray (Exit.then (wpListIn (FW none) 0 P l.toArray Q [o]) Q) pre a w) : (Code.region id l.toArray false).wp P Q a w := by
  refine (wpIn_wide (n := 0)).1 ?_
  refine wpIn_region_lit (F := FW none) ?_
  have h2 := list_in_then (ro := none) (n := 0) pre a w hd hQ h.out
  rw [← hl] at h2
  exact h2
/-- The statement. -/
theorem wp_range {g : Operand} {ps : Array Tmp} {assign body : Code} {gf : FuncId} {lb : Array Value} (hg : a.eval g = .func (.func gf) #[] lb) (eg : ∀ args w, (callFunc gf args).run P w = .ok (.enter gf args) w)
    (h : ∀ fn, Calls P gf (#[.func (.yield (w.heap.size + 1)) #[] #[]] ++ lb) ((w.alloc (.deferred (some []))).alloc (.loop { state := .ready, pending := none, fn, tmps := a.tmps, params := ps, assign, body, defers := w.heap.size }))
      fun e w3 => (∃ v, e = .returned v) ∧ ∃ r, w3.heap[w.heap.size + 1]? = some (.loop r) ∧ r.state ≠ .busy ∧
        (match r.pending with
         | none => Q .normal { a with defers := { target := .collected w.heap.size, args := #[] } :: a.defers } (w3.putObj (w.heap.size + 1) (.loop { r with state := .exhausted }))
         | some c => c.wp P Q { a with defers := { target := .collected w.heap.size, args := #[] } :: a.defers } (w3.putObj (w.heap.size + 1) (.loop { r with state := .exhausted })))) :
    (Code.rangeFunc g ps assign body).wp P Q a w := by
  refine (wpIn_wide (n := 0)).1 ?_
  refine wpIn_rangeFunc ?_
  intro fn _
  refine ⟨w.heap.size + 1, [{ target := .collected w.heap.size, args := #[] }], ((w.alloc (.deferred (some []))).alloc (.loop { state := .ready, pending := none, fn, tmps := a.tmps, params := ps, assign, body, defers := w.heap.size })), { target := .fn (.func gf) lb, args := #[.func (.yield (w.heap.size + 1)) #[] #[]] }, ((w.alloc (.deferred (some []))).alloc (.loop { state := .ready, pending := none, fn, tmps := a.tmps, params := ps, assign, body, defers := w.heap.size })), gf, #[.func (.yield (w.heap.size + 1)) #[] #[]] ++ lb, ((w.alloc (.deferred (some []))).alloc (.loop { state := .ready, pending := none, fn, tmps := a.tmps, params := ps, assign, body, defers := w.heap.size })), run_enterLoop_outer _ _ _ _ _, ?_, fun _ _ => trivial, ?_, fun e => by simp [Fence.wide] at e, ?_⟩
  · simp only [resolve, hg]
    simp [go_sem]
  · simp [invoke, go_sem, eg]
  · refine (callsIn_wide (n := 0 - 1)).2 ((h fn).mono ?_)
    rintro e w3 ⟨⟨v, rfl⟩, r, h1, h2, h3⟩
    refine ⟨r.pending, _, run_endLoop h1 h2, ?_⟩
    cases hp : r.pending with
    | none =>
      rw [hp] at h3
      exact h3
    | some c =>
      rw [hp] at h3
      exact wpIn_wide.2 h3
/-- A function that holds such a statement leaves. -/
theorem marks_ret {fn : Func} {R : Ending → World → Prop} {D : Nat} {v : Value} (hdf : a.defers = [{ target := .collected D, args := #[] }]) (hD : w.heap[D]? = some (.deferred (some []))) (hr : ∀ w, (results fn a.tmps).run P w = .ok v w) (h : R (.returned v) (w.putObj D (.deferred none))) : bodyPostM Fence.wide 0 P fn R .ret a w := by
  show LeavesInM Fence.wide 0 P fn a.tmps R a.defers .returning w
  rw [hdf]
  refine ⟨by simp, .inl ⟨D, _, rfl, run_takeDeferred hD, ?_⟩⟩
  exact ⟨v, hr _, h⟩
end

/-- No row of bytes. -/
def NR (Z : Obj) : Prop := ∀ c fz, Z ≠ .cells c 5 fz
/-- A builder, and the blocks beside it, of a call that is under way. -/
structure ST (w : World) (k : Nat) (l : List UInt8) (L : List Blk) (u : World) : Prop where
  bel : Below w.heap.size w u
  hk : w.heap.size ≤ k
  isb : Lib.IsBuilderF 165 5 k k (Lib.byteCells l) u
  at_ : ∀ b ∈ L, u.heap[b.g]? = some b.Z
  ne : ∀ b ∈ L, b.g ≠ k
  nr : ∀ b ∈ L, NR b.Z
  ge : ∀ b ∈ L, w.heap.size ≤ b.g
  nodup : (L.map Blk.g).Nodup
theorem ST.mem {w u : World} {k : Nat} {l : List UInt8} {L : List Blk} (h : ST w k l L u) (hL : Laid w) : Mem ⟨u, L.map Blk.g⟩ L u :=
  ⟨grown_refl _ _, h.at_, fun b hb => .inr (List.mem_map_of_mem hb), h.nodup, below_laid h.bel hL, fun x e => by
    obtain ⟨b, hb, e⟩ := List.mem_map.1 e
    have := h.ge b hb
    have := hL.lt
    omega⟩
theorem isf_lt {w : World} {T e : TypeId} {B b : Nat} {xs : List Value} (h : Lib.IsBuilderF T e B b xs w) : b < w.heap.size := h.elim Lib.BuilderAtF.lt Lib.BuilderAtF.lt
theorem owf_keep {w w' : World} {B : Nat} {e : TypeId} {v : Value} {n : Nat} {xs : List Value} (h : w.ownsRowF B e 1 v n xs) (hb : ∀ (g : Nat) (c : Array Value) (fz : Nat × Nat), w.heap[g]? = some (Obj.cells c e fz) → w'.heap[g]? = w.heap[g]?) : w'.ownsRowF B e 1 v n xs := by
  obtain ⟨h1, h2⟩ := h
  refine ⟨h1, ?_⟩
  rcases h2 with h2 | ⟨g, cap, cur, fz, h3, h4, h5, h6⟩
  · exact .inl h2
  · exact .inr ⟨g, cap, cur, fz, h3, h4, by rw [hb g cur fz h5]; exact h5, h6⟩
theorem batf_keep {w w' : World} {T e : TypeId} {B b : Nat} {p : Value} {xs : List Value} (h : Lib.BuilderAtF T e B b p xs w) (hk : w'.heap[b]? = w.heap[b]?) (hb : ∀ (g : Nat) (c : Array Value) (fz : Nat × Nat), w.heap[g]? = some (Obj.cells c e fz) → w'.heap[g]? = w.heap[g]?) : Lib.BuilderAtF T e B b p xs w' := by
  obtain ⟨h1, v, h2, h3, h4⟩ := h
  exact ⟨h1, v, by rw [hk]; exact h2, owf_keep h3 hb, h4⟩
theorem isf_keep {w w' : World} {T e : TypeId} {B b : Nat} {xs : List Value} (h : Lib.IsBuilderF T e B b xs w) (hk : w'.heap[b]? = w.heap[b]?) (hb : ∀ (g : Nat) (c : Array Value) (fz : Nat × Nat), w.heap[g]? = some (Obj.cells c e fz) → w'.heap[g]? = w.heap[g]?) : Lib.IsBuilderF T e B b xs w' := h.imp (batf_keep · hk hb) (batf_keep · hk hb)
theorem ST.next {w u u' : World} {k : Nat} {l : List UInt8} {L L' : List Blk} (h : ST w k l L u) (M : Mem ⟨u, L.map Blk.g⟩ L' u') (hn : ∀ b ∈ L', NR b.Z) : ST w k l L' u' := by
  have hkl := isf_lt h.isb
  have hsz := h.bel.size
  have hr : ∀ g, g ∈ L.map Blk.g → g ≠ k ∧ w.heap.size ≤ g ∧ ∃ Z, u.heap[g]? = some Z ∧ NR Z := fun g hg => by
    obtain ⟨b, hb, rfl⟩ := List.mem_map.1 hg
    exact ⟨h.ne b hb, h.ge b hb, b.Z, h.at_ b hb, h.nr b hb⟩
  have ho : Grw u u' (L.map Blk.g) := M.old
  refine ⟨h.bel.trans ⟨ho.os, ho.tape, ho.output, ho.size, fun j hj => ho.block j (by omega) fun hm => ?_⟩, h.hk, isf_keep h.isb (ho.block k hkl fun hm => (hr k hm).1 rfl) (fun g c fz hg => ho.block g (Array.getElem?_eq_some_iff.1 hg).1 fun hm => ?_), M.at_, fun b hb e => ?_, hn, fun b hb => ?_, M.nodup⟩
  · have := (hr j hm).2.1
    omega
  · obtain ⟨_, _, Z, h1, h2⟩ := hr g hm
    rw [hg] at h1
    exact h2 c fz (Option.some.inj h1).symm
  · rcases M.ge b hb with h1 | h1
    · have h1 : u.heap.size ≤ b.g := h1
      omega
    · exact (hr _ h1).1 e
  · rcases M.ge b hb with h1 | h1
    · have h1 : u.heap.size ≤ b.g := h1
      omega
    · exact (hr _ h1).2.1
theorem ST.perm {w u : World} {k : Nat} {l : List UInt8} {L L' : List Blk} (h : ST w k l L u) (hp : L.Perm L') : ST w k l L' u :=
  ⟨h.bel, h.hk, h.isb, fun b hb => h.at_ b (hp.mem_iff.2 hb), fun b hb => h.ne b (hp.mem_iff.2 hb), fun b hb => h.nr b (hp.mem_iff.2 hb), fun b hb => h.ge b (hp.mem_iff.2 hb), (hp.map _).nodup_iff.1 h.nodup⟩
theorem ST.drop {w u : World} {k : Nat} {l : List UInt8} {L L' : List Blk} (h : ST w k l L u) (hp : L'.Sublist L) : ST w k l L' u :=
  ⟨h.bel, h.hk, h.isb, fun b hb => h.at_ b (hp.subset hb), fun b hb => h.ne b (hp.subset hb), fun b hb => h.nr b (hp.subset hb), fun b hb => h.ge b (hp.subset hb), h.nodup.sublist (hp.map _)⟩
theorem cells_one (l : List UInt8) (c : Int) (h0 : 0 ≤ c) (h1 : c < 256) : Lib.byteCells (l ++ [UInt8.ofNat c.toNat]) = Lib.byteCells l ++ [.int .u8 c] := by
  rw [Lib.byteCells_append]
  congr 1
  have e : (UInt8.ofNat c.toNat).toNat = c.toNat := by
    rw [UInt8.toNat_ofNat']
    omega
  show [Value.int .u8 ((UInt8.ofNat c.toNat).toNat : Int)] = _
  rw [e]
  congr 2
  omega
theorem ST.write {w u : World} {k : Nat} {l : List UInt8} {L : List Blk} (h : ST w k l L u) (c : Int) (h0 : 0 ≤ c) (h1 : c < 256) (hl : l.length < 1000000) : Calls Tryz.prog 106 #[.pointer (some ⟨k, 0, none⟩), .int .u8 c] u fun r u' => r = .returned .nilIface ∧ ST w k (l ++ [UInt8.ofNat c.toNat]) L u' := by
  have hkl := isf_lt h.isb
  have hlen : (Lib.byteCells l).length = l.length := Lib.byteCells_length l
  refine (Any.Builder_WriteByte_k (P := Tryz.prog) (ρ := repRen) lays167 repExtra k k (Lib.byteCells l) c u h.isb (by omega) (by omega)).mono ?_
  rintro r u' ⟨rfl, h2, h3, h4⟩
  have hat : ∀ b ∈ L, u'.heap[b.g]? = some b.Z := fun b hb => h4 b.g b.Z (h.at_ b hb) (fun e => h.ne b hb (Option.some.inj e)) (fun cs fz e => h.nr b hb cs fz e)
  exact ⟨rfl, h.bel.trans (h3.mono h.hk), h.hk, .inr (by rw [cells_one l c h0 h1]; exact h2), hat, h.ne, h.nr, h.ge, h.nodup⟩
theorem ST.str {w u : World} {k : Nat} {l : List UInt8} {L : List Blk} (h : ST w k l L u) : Calls Tryz.prog 107 #[.pointer (some ⟨k, 0, none⟩)] u fun r u' => r = .returned (.string ⟨l.toArray⟩) ∧ ST w k l L u' := by
  have hkl := isf_lt h.isb
  refine (Any.Builder_String_any_k (P := Tryz.prog) (ρ := repRen) lays169 repExtra k k l u h.isb (by omega)).mono ?_
  rintro r u' ⟨rfl, h2, h3, h4⟩
  have hat : ∀ b ∈ L, u'.heap[b.g]? = some b.Z := fun b hb => h4 b.g b.Z (h.at_ b hb) (fun e => h.ne b hb (Option.some.inj e)) (fun cs fz e => h.nr b hb cs fz e)
  exact ⟨rfl, h.bel.trans (h3.mono h.hk), h.hk, h2, hat, h.ne, h.nr, h.ge, h.nodup⟩
theorem ST.put {w u : World} {k : Nat} {l : List UInt8} {L : List Blk} (h : ST w k l L u) (hL : Laid w) (i g : Nat) (Z Z' : Obj) (hi : L[i]? = some ⟨g, Z⟩) (hz : NR Z') : ST w k l (L.set i ⟨g, Z'⟩) (u.putObj g Z') := by
  have hg : u.heap[g]? = some Z := h.at_ _ (List.mem_of_getElem? hi)
  have hlt : g < u.heap.size := (Array.getElem?_eq_some_iff.1 hg).1
  have hu : Grw u (u.putObj g Z') [g] := ⟨rfl, rfl, rfl, by simp, fun j _ hj => World.putObj_heap_other (by simpa using hj)⟩
  refine h.next ((h.mem hL).put i ⟨g, Z⟩ hi Z' hu (World.putObj_heap_same hlt)) fun b hb => ?_
  rcases List.mem_or_eq_of_mem_set hb with h1 | h1
  · exact h.nr b h1
  · rw [h1]
    exact hz

end Go.Proofs.YtenafinbaanicaaGreatDoor
namespace Go.Proofs.YtenafinbaanicaaGreatDoor
open Go.RowKit

/-- The loop over a function in a piece of code. -/
def findRange : Code → Option (Code × Code)
  | .seq a b => (findRange a).orElse fun _ => findRange b
  | .block _ c => findRange c
  | .rangeFunc _ _ s b => some (s, b)
  | _ => none
theorem code_is {O : Option (Code × Code)} {c0 d0 sg bd : Code} (hO : O = some (c0, d0)) (hc : O = some (sg, bd)) {F : Fence} {n : Nat} {P : Program} {Q : Exit → Act → World → Prop} {a : Act} {w : World} (h : d0.wpIn F n P Q a w) : bd.wpIn F n P Q a w := by
  rw [hO] at hc
  cases hc
  exact h
theorem code_is1 {O : Option (Code × Code)} {c0 d0 sg bd : Code} (hO : O = some (c0, d0)) (hc : O = some (sg, bd)) {F : Fence} {n : Nat} {P : Program} {Q : Exit → Act → World → Prop} {a : Act} {w : World} (h : c0.wpIn F n P Q a w) : sg.wpIn F n P Q a w := by
  rw [hO] at hc
  cases hc
  exact h
theorem au_block_out {id j : Nat} {Q : Exit → Act → World → Prop} {a : Act} {w : World} (h : j ≠ id) (hq : Q (.exit j) a w) : Exit.inBlock id Q (.exit j) a w := by
  show if j = id then Q .normal a w else Q (.exit j) a w
  rw [if_neg h]
  exact hq
/-- The words of the stream's blocks. -/
def sw (f : Nat → Int) : Nat → (Nat → Int)
  | 0 => f
  | i + 1 => upd (sw f i) 12 (va (sw f i 12) 1)
/-- A byte of a text, turned. -/
def ob (f : Nat → Int) (s : ByteArray) (i : Nat) : Int := xb (bt s i) (bl (sw f (i / 64)) (i % 64))
def ot (f : Nat → Int) (s : ByteArray) : Nat → List UInt8
  | 0 => []
  | i + 1 => ot f s i ++ [UInt8.ofNat (ob f s i).toNat]
theorem ot_length (f : Nat → Int) (s : ByteArray) : ∀ n, (ot f s n).length = n
  | 0 => rfl
  | n + 1 => by
    unfold ot
    rw [List.length_append, ot_length f s n]
    rfl
theorem ob_nn (f : Nat → Int) (s : ByteArray) (i : Nat) : 0 ≤ ob f s i ∧ ob f s i < 256 := xb_nn _ _
theorem ob_at (f : Nat → Int) (s : ByteArray) (i j : Nat) (hj : j < 64) : xb (bt s (64 * i + j)) (bl (sw f i) j) = ob f s (64 * i + j) := by
  unfold ob
  rw [show (64 * i + j) / 64 = i by omega, show (64 * i + j) % 64 = j by omega]
theorem ext_size (s : ByteArray) (p : Nat) : (s.extract p s.size).size = s.size - p := by
  rw [ByteArray.size_extract]
  omega
theorem bt_ext (s : ByteArray) (p j : Nat) : bt (s.extract p s.size) j = bt s (p + j) := by
  unfold bt
  rw [ByteArray.data_extract, Array.getElem?_extract]
  by_cases h : j < s.data.size - p
  · rw [if_pos (by show j < min s.data.size s.data.size - p; omega)]
  · rw [if_neg (by show ¬ j < min s.data.size s.data.size - p; omega), Array.getElem?_eq_none (by omega)]
theorem min_if (x y : Nat) : (if (y : Int) < (x : Int) then (y : Int) else (x : Int)) = ((min x y : Nat) : Int) := by
  by_cases h : y < x
  · rw [if_pos (by omega), Nat.min_eq_right (by omega)]
  · rw [if_neg (by omega), Nat.min_eq_left (by omega)]

set_option maxRecDepth 100000 in
set_option maxHeartbeats 4000000 in
/-- A round: the bytes of one block. -/
theorem r_body (sg bd : Code) (hb : Tryz.f92.body.bind findRange = some (sg, bd)) (s : ByteArray) (f : Nat → Int) (i : Nat) (hi : 64 * i ≤ s.size) (hz : s.size ≤ 200000) (k gs g7 lp : Nat) (L0 : List Blk) (v : Nat → Value) (w u : World) (hL : Laid w) (R : Exit → Act → World → Prop) (hO : ∀ a w, ¬ R .outgrown a w) (hP : ∀ c a w, ¬ R (.panic c) a w)
    (hS : ST w k (ot f s (64 * i)) (⟨gs, .cells (av 1 (fun _ => .string s)) 9⟩ :: ⟨g7, .cells (av 64 (w8 (bl (sw f i)))) 170⟩ :: L0) u)
    (hgo : ∀ a u', 64 < s.size - 64 * i → ST w k (ot f s (64 * i + 64)) (⟨gs, .cells (av 1 (fun _ => .string s)) 9⟩ :: ⟨g7, .cells (av 64 (w8 (bl (sw f i)))) 170⟩ :: L0) u' → R .normal a u')
    (hend : ∀ a u', s.size - 64 * i ≤ 64 → ST w k (ot f s s.size) (⟨gs, .cells (av 1 (fun _ => .string s)) 9⟩ :: ⟨g7, .cells (av 64 (w8 (bl (sw f i)))) 170⟩ :: L0) u' → R (.exit 0) a u') :
    bd.wpIn (FW (some lp)) 0 Tryz.prog R (fm ([v 0, v 1, .pointer (some ⟨gs, 0, none⟩), v 3, v 4, .pointer (some ⟨k, 0, none⟩), .int .i64 ((64 * i : Nat) : Int), .pointer (some ⟨g7, 0, none⟩)] ++ vr v 8 31)) u := by
  refine code_is (O := Tryz.f92.body.bind findRange) rfl hb ?_
  have M := hS.mem hL
  refine wpIn_block ?_
  refine wpIn_seq ?_
  refine rr_lit (by kernel_rfl) (fun _ _ h => hO _ _ h) ?_
  refine ZE M 17 0 0 ?_
  refine rV 1 ?_
  refine pH 19 (.string (s.extract (64 * i) s.size)) (run_strl 9 Tryz.underlying9 _ _ rfl s (by kernel_rfl) .i64 (64 * i) (by kernel_rfl) hi _ rfl) ?_
  refine rV 1 ?_
  refine nT ?_
  refine wpIn_seq ?_
  refine wpIn_seq ?_
  refine rr_lit (by kernel_rfl) (fun _ _ h => hO _ _ h) ?_
  refine rV 1 ?_
  refine zJ 21 (.int .i64 ((s.size - 64 * i : Nat) : Int)) (.int .i64 ((s.extract (64 * i) s.size).size : Int)) (by rw [ext_size]) ?_
  refine zJ 22 (.int .i64 ((min (s.size - 64 * i) 64 : Nat) : Int)) (.int .i64 (if (64 : Int) < ((s.size - 64 * i : Nat) : Int) then (64 : Int) else ((s.size - 64 * i : Nat) : Int))) (by rw [show (if (64 : Int) < ((s.size - 64 * i : Nat) : Int) then (64 : Int) else ((s.size - 64 * i : Nat) : Int)) = ((min (s.size - 64 * i) 64 : Nat) : Int) from min_if (s.size - 64 * i) 64]) ?_
  refine rV 1 ?_
  refine nT ?_
  refine wpIn_block ?_
  have hS1 := hS.next M hS.nr
  obtain ⟨N, hN⟩ : ∃ N, min (s.size - 64 * i) 64 = N := ⟨_, rfl⟩
  have hN2 : N ≤ 64 ∧ N ≤ s.size - 64 * i := by rw [← hN]; exact ⟨Nat.min_le_right _ _, Nat.min_le_left _ _⟩
  rw [hN]
  refine rr_loop (fun j a u => ∃ v1 : Nat → Value, a = (fm ([v 0, v 1, .pointer (some ⟨gs, 0, none⟩), v 3, v 4, .pointer (some ⟨k, 0, none⟩), .int .i64 ((64 * i : Nat) : Int), .pointer (some ⟨g7, 0, none⟩), .string (s.extract (64 * i) s.size), v1 9] ++ vr v 10 7 ++ [.string s, .int .i64 ((64 * i : Nat) : Int), .string (s.extract (64 * i) s.size), .string (s.extract (64 * i) s.size), .int .i64 ((s.size - 64 * i : Nat) : Int), .int .i64 ((N : Nat) : Int), .int .i64 (j : Int)] ++ vr v1 24 11 ++ vr v 35 4)) ∧ ST w k (ot f s (64 * i + j)) (⟨gs, .cells (av 1 (fun _ => .string s)) 9⟩ :: ⟨g7, .cells (av 64 (w8 (bl (sw f i)))) 170⟩ :: L0) u) N ⟨fun k_ => ([v 9, undef, undef, undef, undef, undef, undef, undef, undef, undef, undef, undef, undef, undef, undef, v 24, v 25, v 26, v 27, v 28, v 29, v 30, v 31, v 32, v 33, v 34] : List Value).getD (k_ - 9) undef, by kernel_rfl, hS1⟩ ?_ ?_
  · intro j a u0 hj hI
    clear M hS1 hS
    obtain ⟨v1, rfl, hS⟩ := hI
    have M := hS.mem hL
    refine wpIn_seq ?_
    refine rr_lit (by kernel_rfl) (fun _ _ h => hO _ _ h) ?_
    refine ZT 24 ((j : Int) < (N : Int)) ?_
    refine nT ?_
    refine wpIn_seq ?_
    refine wpIn_cond_true (by kernel_rfl) ?_
    refine wpIn_skip ?_
    refine au_then ?_
    refine wpIn_seq ?_
    refine wpIn_block ?_
    refine wpIn_seq ?_
    refine rr_lit (by kernel_rfl) (fun _ _ h => hO _ _ h) ?_
    refine rV 2 ?_
    refine nT ?_
    refine rr_held (by kernel_rfl) (fun _ _ h => hO _ _ h) M (⟨gs, .cells (av 1 (fun _ => .string s)) 9⟩ :: ⟨g7, .cells (av 64 (w8 (bl (sw f i)))) 170⟩ :: L0) 7 rfl (by kernel_rfl) (by kernel_rfl) (fun _ _ _ _ _ h => (hP _ _ _ h).elim) fun u1 M => ?_
    refine qV M 0 26 (.string (s.extract (64 * i) s.size)) ?_
    refine qV M 1 27 (.int .i64 (j : Int)) ?_
    refine qH M 2 28 (.int .u8 (bt s (64 * i + j))) (fun w _ => (fun w => Eq.trans (run_ixS 9 Tryz.underlying9 _ _ rfl (s.extract (64 * i) s.size) (by kernel_rfl) .i64 j (by kernel_rfl) (by rw [ext_size]; omega) w) (by rw [bt_ext])) w) ?_
    refine qV M 3 29 (.int .i64 (j : Int)) ?_
    refine qH M 4 30 (.pointer (some ⟨g7, j, none⟩)) (fun w _ => (run_ix1 170 64 5 Tryz.underlying170 inz5 _ _ rfl g7 (by kernel_rfl) .i64 (j) (by kernel_rfl) (by omega)) w) ?_
    refine qE M 5 31 1 j ?_
    refine qH M 6 32 (.int .u8 (ob f s (64 * i + j))) (fun w _ => (fun w => Eq.trans (b := .ok (.value (.int .u8 (xb (bt s (64 * i + j)) (bl (sw f i) j)))) w) (by kernel_rfl) (by rw [ob_at f s i j (by omega)])) w) ?_
    refine qZ ?_
    refine pl_callr (want_no rfl) (some 33) rfl 106 #[.pointer (some ⟨k, 0, none⟩), .int .u8 (ob f s (64 * i + j))] .nilIface _ (fun _ => by kernel_rfl) ((hS.next M hS.nr).write (ob f s (64 * i + j)) (ob_nn _ _ _).1 (ob_nn _ _ _).2 (by rw [ot_length]; omega)) ?_
    intro u2 hS2
    refine nT ?_
    refine au_block ?_
    refine au_then ?_
    refine rr_lit (by kernel_rfl) (fun _ _ h => hO _ _ h) ?_
    refine ZI 34 ((j : Int) + 1) ((j + 1 : Nat) : Int) ?_
    refine rV 1 ?_
    refine nT ?_
    exact exS hS2
  · intro a u0 hI
    clear M hS1 hS
    obtain ⟨v1, rfl, hS⟩ := hI
    by_cases hc : s.size - 64 * i ≤ 64
    · skip
      have M := hS.mem hL
      refine wpIn_seq ?_
      refine rr_lit (by kernel_rfl) (fun _ _ h => hO _ _ h) ?_
      refine ZF 24 ((N : Int) < (N : Int)) ?_
      refine nT ?_
      refine wpIn_seq ?_
      refine wpIn_cond_false (by kernel_rfl) ?_
      refine wpIn_exit ?_
      refine au_then_exit ?_
      refine au_then_exit ?_
      refine au_block_exit ?_
      refine au_then ?_
      refine wpIn_seq ?_
      refine rr_lit (by kernel_rfl) (fun _ _ h => hO _ _ h) ?_
      refine rV 1 ?_
      refine zJ 36 (.int .i64 ((s.size - 64 * i : Nat) : Int)) (.int .i64 ((s.extract (64 * i) s.size).size : Int)) (by rw [ext_size]) ?_
      refine ZT 37 (((s.size - 64 * i : Nat) : Int) ≤ 64) ?_
      refine nT ?_
      refine wpIn_cond_true (by kernel_rfl) ?_
      refine wpIn_exit ?_
      refine au_block_out (by decide) ?_
      have e : 64 * i + N = s.size := by rw [← hN, Nat.min_eq_left hc]; omega
      have hS3 := hS.next M hS.nr
      rw [e] at hS3
      exact hend _ _ hc hS3
    · skip
      have M := hS.mem hL
      refine wpIn_seq ?_
      refine rr_lit (by kernel_rfl) (fun _ _ h => hO _ _ h) ?_
      refine ZF 24 ((N : Int) < (N : Int)) ?_
      refine nT ?_
      refine wpIn_seq ?_
      refine wpIn_cond_false (by kernel_rfl) ?_
      refine wpIn_exit ?_
      refine au_then_exit ?_
      refine au_then_exit ?_
      refine au_block_exit ?_
      refine au_then ?_
      refine wpIn_seq ?_
      refine rr_lit (by kernel_rfl) (fun _ _ h => hO _ _ h) ?_
      refine rV 1 ?_
      refine zJ 36 (.int .i64 ((s.size - 64 * i : Nat) : Int)) (.int .i64 ((s.extract (64 * i) s.size).size : Int)) (by rw [ext_size]) ?_
      refine ZF 37 (((s.size - 64 * i : Nat) : Int) ≤ 64) ?_
      refine nT ?_
      refine wpIn_cond_false (by kernel_rfl) ?_
      refine wpIn_skip ?_
      refine au_block ?_
      have e : N = 64 := by rw [← hN]; exact Nat.min_eq_right (by omega)
      have hS3 := hS.next M hS.nr
      rw [e] at hS3
      exact hgo _ _ (by omega) hS3

end Go.Proofs.YtenafinbaanicaaGreatDoor
namespace Go.Proofs.YtenafinbaanicaaGreatDoor
open Go.RowKit

/-- The loop's record. -/
def lpr (st : LoopState) (pe : Option Code) (fn : FuncId) (T : Array Value) (sg bd : Code) (D : Nat) : Loop := { state := st, pending := pe, fn := fn, tmps := T, params := #[15, 16], assign := sg, body := bd, defers := D }
def tF (k gs : Nat) (v : Nat → Value) : Array Value := #[v 0, v 1, .pointer (some ⟨gs, 0, none⟩), v 3, v 4, .pointer (some ⟨k, 0, none⟩), v 6, v 7, v 8, v 9, v 10, v 11, v 12, v 13, v 14, v 15, v 16, v 17, v 18, v 19, v 20, v 21, v 22, v 23, v 24, v 25, v 26, v 27, v 28, v 29, v 30, v 31, v 32, v 33, v 34, v 35, v 36, v 37, v 38]
theorem fr_is {a b : Act} (h : a = b) {c : Code} {F : Fence} {n : Nat} {P : Program} {Q : Exit → Act → World → Prop} {w : World} (k : c.wpIn F n P Q b w) : c.wpIn F n P Q a w := by
  rw [h]
  exact k
theorem rg_yieldN {P : Program} {a : Act} {w : World} {Q : Exit → Act → World → Prop} {id : Nat} {l : List Oper} (m : Nat) (hd : (l.take m).all ndB = true) (hQ : ∀ a w, ¬ Q .outgrown a w) (h : PL P l.toArray (Exit.then (wpListIn (FW none) 0 P l.toArray Q (l.drop m)) Q) (l.take m) a w) : (Code.region id l.toArray false).wp P Q a w := by
  refine (wpIn_wide (n := 0)).1 ?_
  refine wpIn_region_lit (F := FW none) ?_
  have h2 := list_in_then (ro := none) (n := 0) (l.take m) a w hd hQ h.out
  rw [List.take_append_drop] at h2
  exact h2
theorem nr_loop (r : Loop) : NR (.loop r) := fun _ _ e => by cases e
theorem nr_def (x : Option (List Deferred)) : NR (.deferred x) := fun _ _ e => by cases e
theorem nr_cells (c : Array Value) (T : TypeId) (h : T ≠ 5) : NR (.cells c T) := fun _ _ e => by
  cases e
  exact h rfl
theorem nrs_nil : ∀ b ∈ ([] : List Blk), NR b.Z := fun _ h => by cases h
theorem nrs_cons {x : Blk} {L : List Blk} (h : NR x.Z) (hs : ∀ b ∈ L, NR b.Z) : ∀ b ∈ x :: L, NR b.Z := fun b hb => by
  rcases List.mem_cons.1 hb with rfl | hb
  · exact h
  · exact hs b hb

set_option maxRecDepth 100000 in
set_option maxHeartbeats 4000000 in
theorem c_stream (f : Nat → Int) (w : World) (hL : Laid w)  :
    Calls Tryz.prog 105 #[.agg (av 16 (w32 f))] w fun r w' => ∃ g, r = .returned (.func (.func 122) #[] #[.pointer (some ⟨g, 0, none⟩)]) ∧ w.heap.size ≤ g ∧ w'.heap[g]? = some (.cells (av 16 (w32 f)) 151) ∧ Below w.heap.size w w' := by
  go_enter Tryz.func105, Tryz.ntmps105
  have M := Mem.start hL
  refine sR ?_
  refine pN M 1 (.cells (av 16 (w32 f)) 151) fun g1 u1 M => ?_
  refine rV 1 ?_
  refine nT ?_
  refine sq ?_
  refine wp_ret ?_
  exact bX (.func (.func 122) #[] #[.pointer (some ⟨g1, 0, none⟩)]) ⟨g1, rfl, (M.ge _ (List.mem_of_getElem? (i := 0) rfl)).elim id (fun h => by cases h), M.get 0 rfl, below_grown M.old⟩

theorem perm_last {α : Type} (x : α) : ∀ (L : List α), (L ++ [x]).Perm (x :: L) := fun L => List.perm_append_singleton x L

set_option maxRecDepth 100000 in
set_option maxHeartbeats 4000000 in
theorem c_iter (sg bd : Code) (hb : Tryz.f92.body.bind findRange = some (sg, bd)) (s : ByteArray) (f : Nat → Int) (hz : s.size ≤ 200000) (k gs gc lp D : Nat) (fn : FuncId) (v : Nat → Value) (w u : World) (hL : Laid w)
    (hS : ST w k [] [⟨gs, .cells (av 1 (fun _ => .string s)) 9⟩, ⟨gc, .cells (av 16 (w32 f)) 151⟩, ⟨lp, .loop (lpr .ready none fn (tF k gs v) sg bd D)⟩, ⟨D, .deferred (some [])⟩] u) :
    Calls Tryz.prog 122 #[.func (.yield lp) #[] #[], .pointer (some ⟨gc, 0, none⟩)] u fun e u' => (∃ v, e = .returned v) ∧ ST w k (ot f s s.size) [⟨gs, .cells (av 1 (fun _ => .string s)) 9⟩, ⟨gc, .cells (av 16 (w32 f)) 151⟩, ⟨lp, .loop (lpr .done (some (.exit 0)) fn (tF k gs v) sg bd D)⟩, ⟨D, .deferred (some [])⟩] u' := by
  go_enter Tryz.func122, Tryz.ntmps122
  have M := hS.mem hL
  refine sR ?_
  refine pA M 5 1 16 (w32 f) ?_
  refine pN M 3 (.cells (av 16 (w32 (fun _ => 0))) 151) fun g1 u1 M => ?_
  refine ZG M 4 16 (w32 f) fun u2 M => ?_
  refine nT ?_
  refine sq ?_
  refine wp_block ?_
  have hS1 := hS.next M (nrs_cons (nr_cells _ _ (by decide)) (nrs_cons (nr_cells _ _ (by decide)) (nrs_cons (nr_loop _) (nrs_cons (nr_def _) (nrs_cons (nr_cells _ _ (by decide)) (nrs_nil))))))
  obtain ⟨N, hN⟩ : ∃ N, N = (s.size - 1) / 64 := ⟨_, rfl⟩
  refine au_loop (fun j a u => ∃ v1 : Nat → Value, a = (fm ([.func (.yield lp) #[] #[], .pointer (some ⟨gc, 0, none⟩), undef, .pointer (some ⟨g1, 0, none⟩), .int .i64 ((64 * j : Nat) : Int), .agg (av 16 (w32 f))] ++ vr v1 6 11)) ∧ ST w k (ot f s (64 * j)) [⟨gs, .cells (av 1 (fun _ => .string s)) 9⟩, ⟨gc, .cells (av 16 (w32 f)) 151⟩, ⟨lp, .loop (lpr .ready none fn (tF k gs v) sg bd D)⟩, ⟨D, .deferred (some [])⟩, ⟨g1, .cells (av 16 (w32 (sw f j))) 151⟩] u) N (exS hS1) ?_ ?_
  · intro j a u0 hj hI
    clear hS1 M hS
    obtain ⟨v1, rfl, hS⟩ := hI
    have M := hS.mem hL
    refine wp_seq ?_
    refine wp_seq ?_
    refine rg_yieldN 4 (by kernel_rfl) (fun _ _ h => by obtain ⟨⟨_, e⟩, _⟩ := h; cases e) ?_
    simp only [List.take_succ_cons, List.take_zero, List.drop_succ_cons, List.drop_zero]
    refine rV 2 ?_
    refine pA M 8 4 16 (w32 (sw f j)) ?_
    refine ZC M 9 (fun w M => c_block (sw f j) w M.laid) fun u3 M => ?_
    refine nT ?_
    have hS2 := hS.next M (nrs_cons (nr_cells _ _ (by decide)) (nrs_cons (nr_cells _ _ (by decide)) (nrs_cons (nr_loop _) (nrs_cons (nr_def _) (nrs_cons (nr_cells _ _ (by decide)) (nrs_nil))))))
    refine pl_yield lp (lpr .ready none fn (tF k gs v) sg bd D) #[.int .i64 ((64 * j : Nat) : Int), .agg (av 64 (w8 (bl (sw f j))))] (M.get 2 rfl) rfl rfl (by kernel_rfl) (fun _ => by kernel_rfl) (want_no rfl) ?_
    refine code_is1 (O := Tryz.f92.body.bind findRange) rfl hb ?_
    refine fr_is (b := (fm ([v 0, v 1, .pointer (some ⟨gs, 0, none⟩), v 3, v 4, .pointer (some ⟨k, 0, none⟩)] ++ vr v 6 9 ++ [.int .i64 ((64 * j : Nat) : Int), .agg (av 64 (w8 (bl (sw f j))))] ++ vr v 17 22))) (by kernel_rfl) ?_
    refine wpIn_seq ?_
    refine rr_lit (by kernel_rfl) (fun _ _ h => h) ?_
    refine rV 1 ?_
    refine nT ?_
    refine rr_lit (by kernel_rfl) (fun _ _ h => h) ?_
    refine pN M 7 (.cells (av 64 (w8 (fun _ => 0))) 170) fun g52 u54 M => ?_
    refine ZG M 5 64 (w8 (bl (sw f j))) fun u55 M => ?_
    refine nT ?_
    refine ⟨M.get 2 rfl, ?_⟩
    have hS3 := (hS.next M (nrs_cons (nr_cells _ _ (by decide)) (nrs_cons (nr_cells _ _ (by decide)) (nrs_cons (nr_loop _) (nrs_cons (nr_def _) (nrs_cons (nr_cells _ _ (by decide)) (nrs_cons (nr_cells _ _ (by decide)) (nrs_nil)))))))).put hL 2 lp _ (.loop { lpr .ready none fn (tF k gs v) sg bd D with state := .busy }) rfl (nr_loop _)
    refine fr_is (b := (fm ([v 0, v 1, .pointer (some ⟨gs, 0, none⟩), v 3, v 4, .pointer (some ⟨k, 0, none⟩), .int .i64 ((64 * j : Nat) : Int), .pointer (some ⟨g52, 0, none⟩)] ++ vr v 8 7 ++ [.int .i64 ((64 * j : Nat) : Int), .agg (av 64 (w8 (bl (sw f j))))] ++ vr v 17 22))) (by kernel_rfl) ?_
    refine r_body sg bd hb s f j (by omega) hz k gs g52 lp [⟨gc, .cells (av 16 (w32 f)) 151⟩, ⟨lp, .loop (lpr .busy none fn (tF k gs v) sg bd D)⟩, ⟨D, .deferred (some [])⟩, ⟨g1, .cells (av 16 (w32 (sw f j))) 151⟩] (fun k_ => ([v 0, v 1, .pointer (some ⟨gs, 0, none⟩), v 3, v 4, .pointer (some ⟨k, 0, none⟩), .int .i64 ((64 * j : Nat) : Int), .pointer (some ⟨g52, 0, none⟩), v 8, v 9, v 10, v 11, v 12, v 13, v 14, .int .i64 ((64 * j : Nat) : Int), .agg (av 64 (w8 (bl (sw f j)))), v 17, v 18, v 19, v 20, v 21, v 22, v 23, v 24, v 25, v 26, v 27, v 28, v 29, v 30, v 31, v 32, v 33, v 34, v 35, v 36, v 37, v 38] : List Value).getD (k_ - 0) undef) w _ hL _ (fun _ _ h => h) (fun _ _ _ h => h) (hS3.perm (.cons _ (perm_last _ [_, _, _, _]))) ?_ ?_
    · intro a9 u9 hc hS4
      refine ⟨lpr .busy none fn (tF k gs v) sg bd D, hS4.at_ _ (List.mem_of_getElem? (i := 3) rfl), ?_⟩
      have hS5 := (hS4.put hL 3 lp _ (.loop { lpr .busy none fn (tF k gs v) sg bd D with state := .ready, pending := none }) rfl (nr_loop _)).drop (.cons_cons _ (.cons _ (.cons_cons _ (.cons_cons _ (.cons_cons _ (.cons_cons _ .slnil))))))
      generalize u9.putObj lp _ = u8 at hS5 ⊢
      have hS6 : ST w k (ot f s (64 * j + 64)) [⟨gs, .cells (av 1 (fun _ => .string s)) 9⟩, ⟨gc, .cells (av 16 (w32 f)) 151⟩, ⟨lp, .loop (lpr .ready none fn (tF k gs v) sg bd D)⟩, ⟨D, .deferred (some [])⟩, ⟨g1, .cells (av 16 (w32 (sw f j))) 151⟩] u8 := hS5
      have M := hS6.mem hL
      refine au_then ?_
      refine wp_cond_true (by kernel_rfl) ?_
      refine wp_skip ?_
      refine au_then ?_
      refine wp_seq ?_
      refine wp_block ?_
      refine rg_lit ?_
      refine rV 1 ?_
      refine ZE M 14 4 12 ?_
      refine rV 2 ?_
      refine ZP32 M 4 12 (va ((sw f j) 12) 1) fun u56 M => ?_
      refine pl_nil ?_
      refine au_block ?_
      refine au_then ?_
      refine rg_lit ?_
      refine rV 1 ?_
      refine ZI 12 (((64 * j : Nat) : Int) + 64) ((64 * (j + 1) : Nat) : Int) ?_
      refine rV 1 ?_
      refine nT ?_
      exact exS (hS6.next M (nrs_cons (nr_cells _ _ (by decide)) (nrs_cons (nr_cells _ _ (by decide)) (nrs_cons (nr_loop _) (nrs_cons (nr_def _) (nrs_cons (nr_cells _ _ (by decide)) (nrs_nil)))))))
    · intro a9 u9 hc _
      exact absurd hc (by omega)
  · intro a u0 hI
    clear hS1 M hS
    obtain ⟨v1, rfl, hS⟩ := hI
    have M := hS.mem hL
    refine wp_seq ?_
    refine wp_seq ?_
    refine rg_yieldN 4 (by kernel_rfl) (fun _ _ h => by obtain ⟨⟨_, e⟩, _⟩ := h; cases e) ?_
    simp only [List.take_succ_cons, List.take_zero, List.drop_succ_cons, List.drop_zero]
    refine rV 2 ?_
    refine pA M 8 4 16 (w32 (sw f N)) ?_
    refine ZC M 9 (fun w M => c_block (sw f N) w M.laid) fun u57 M => ?_
    refine nT ?_
    have hS2 := hS.next M (nrs_cons (nr_cells _ _ (by decide)) (nrs_cons (nr_cells _ _ (by decide)) (nrs_cons (nr_loop _) (nrs_cons (nr_def _) (nrs_cons (nr_cells _ _ (by decide)) (nrs_nil))))))
    refine pl_yield lp (lpr .ready none fn (tF k gs v) sg bd D) #[.int .i64 ((64 * N : Nat) : Int), .agg (av 64 (w8 (bl (sw f N))))] (M.get 2 rfl) rfl rfl (by kernel_rfl) (fun _ => by kernel_rfl) (want_no rfl) ?_
    refine code_is1 (O := Tryz.f92.body.bind findRange) rfl hb ?_
    refine fr_is (b := (fm ([v 0, v 1, .pointer (some ⟨gs, 0, none⟩), v 3, v 4, .pointer (some ⟨k, 0, none⟩)] ++ vr v 6 9 ++ [.int .i64 ((64 * N : Nat) : Int), .agg (av 64 (w8 (bl (sw f N))))] ++ vr v 17 22))) (by kernel_rfl) ?_
    refine wpIn_seq ?_
    refine rr_lit (by kernel_rfl) (fun _ _ h => h) ?_
    refine rV 1 ?_
    refine nT ?_
    refine rr_lit (by kernel_rfl) (fun _ _ h => h) ?_
    refine pN M 7 (.cells (av 64 (w8 (fun _ => 0))) 170) fun g103 u108 M => ?_
    refine ZG M 5 64 (w8 (bl (sw f N))) fun u109 M => ?_
    refine nT ?_
    refine ⟨M.get 2 rfl, ?_⟩
    have hS3 := (hS.next M (nrs_cons (nr_cells _ _ (by decide)) (nrs_cons (nr_cells _ _ (by decide)) (nrs_cons (nr_loop _) (nrs_cons (nr_def _) (nrs_cons (nr_cells _ _ (by decide)) (nrs_cons (nr_cells _ _ (by decide)) (nrs_nil)))))))).put hL 2 lp _ (.loop { lpr .ready none fn (tF k gs v) sg bd D with state := .busy }) rfl (nr_loop _)
    refine fr_is (b := (fm ([v 0, v 1, .pointer (some ⟨gs, 0, none⟩), v 3, v 4, .pointer (some ⟨k, 0, none⟩), .int .i64 ((64 * N : Nat) : Int), .pointer (some ⟨g103, 0, none⟩)] ++ vr v 8 7 ++ [.int .i64 ((64 * N : Nat) : Int), .agg (av 64 (w8 (bl (sw f N))))] ++ vr v 17 22))) (by kernel_rfl) ?_
    refine r_body sg bd hb s f N (by omega) hz k gs g103 lp [⟨gc, .cells (av 16 (w32 f)) 151⟩, ⟨lp, .loop (lpr .busy none fn (tF k gs v) sg bd D)⟩, ⟨D, .deferred (some [])⟩, ⟨g1, .cells (av 16 (w32 (sw f N))) 151⟩] (fun k_ => ([v 0, v 1, .pointer (some ⟨gs, 0, none⟩), v 3, v 4, .pointer (some ⟨k, 0, none⟩), .int .i64 ((64 * N : Nat) : Int), .pointer (some ⟨g103, 0, none⟩), v 8, v 9, v 10, v 11, v 12, v 13, v 14, .int .i64 ((64 * N : Nat) : Int), .agg (av 64 (w8 (bl (sw f N)))), v 17, v 18, v 19, v 20, v 21, v 22, v 23, v 24, v 25, v 26, v 27, v 28, v 29, v 30, v 31, v 32, v 33, v 34, v 35, v 36, v 37, v 38] : List Value).getD (k_ - 0) undef) w _ hL _ (fun _ _ h => h) (fun _ _ _ h => h) (hS3.perm (.cons _ (perm_last _ [_, _, _, _]))) ?_ ?_
    · intro a9 u9 hc _
      exact absurd hc (by omega)
    · intro a9 u9 hc hS4
      refine ⟨lpr .busy none fn (tF k gs v) sg bd D, hS4.at_ _ (List.mem_of_getElem? (i := 3) rfl), ?_⟩
      have hS5 := (hS4.put hL 3 lp _ (.loop { lpr .busy none fn (tF k gs v) sg bd D with state := .done, pending := (some (.exit 0)) }) rfl (nr_loop _)).drop (.cons_cons _ (.cons _ (.cons_cons _ (.cons_cons _ (.cons_cons _ (.cons_cons _ .slnil))))))
      generalize u9.putObj lp _ = u8 at hS5 ⊢
      have hS6 : ST w k (ot f s s.size) [⟨gs, .cells (av 1 (fun _ => .string s)) 9⟩, ⟨gc, .cells (av 16 (w32 f)) 151⟩, ⟨lp, .loop (lpr .done (some (.exit 0)) fn (tF k gs v) sg bd D)⟩, ⟨D, .deferred (some [])⟩, ⟨g1, .cells (av 16 (w32 (sw f N))) 151⟩] u8 := hS5
      have M := hS6.mem hL
      refine au_then ?_
      refine wp_cond_false (by kernel_rfl) ?_
      refine wp_exit ?_
      refine au_then_exit ?_
      refine au_then_exit ?_
      refine au_block_exit ?_
      exact bodyPost_end (v := .tuple #[]) (results_none Tryz.results122 _ _) (by kernel_rfl) ⟨⟨_, rfl⟩, (hS6.next M (nrs_cons (nr_cells _ _ (by decide)) (nrs_cons (nr_cells _ _ (by decide)) (nrs_cons (nr_loop _) (nrs_cons (nr_def _) (nrs_cons (nr_cells _ _ (by decide)) (nrs_nil))))))).drop (.cons_cons _ (.cons_cons _ (.cons_cons _ (.cons_cons _ (.cons _ .slnil)))))⟩

end Go.Proofs.YtenafinbaanicaaGreatDoor
namespace Go.Proofs.YtenafinbaanicaaGreatDoor
open Go.RowKit

open Go.Shelf
theorem ST.alloc2 {w u : World} {k : Nat} {l : List UInt8} {L : List Blk} (h : ST w k l L u) (hL : Laid w) (Z1 Z2 : Obj) (h1 : NR Z1) (h2 : NR Z2) : ST w k l (L ++ [⟨u.heap.size, Z1⟩, ⟨u.heap.size + 1, Z2⟩]) ((u.alloc Z1).alloc Z2) := by
  have M1 := (h.mem hL).new u.heap.size Z1 (new_below u Z1) (heap_alloc_new u Z1) (Nat.le_refl _)
  have e : (u.alloc Z1).heap.size = u.heap.size + 1 := World.size_alloc _ _
  have M2 := M1.new (u.heap.size + 1) Z2 (new_below (u.alloc Z1) Z2) (by rw [← e]; exact heap_alloc_new (u.alloc Z1) Z2) (by rw [e]; exact Nat.le_refl _)
  have h3 := h.next M2 (fun b hb => by
    rcases List.mem_append.1 hb with hb | hb
    · rcases List.mem_append.1 hb with hb | hb
      · exact h.nr b hb
      · rw [List.mem_singleton.1 hb]
        exact h1
    · rw [List.mem_singleton.1 hb]
      exact h2)
  rw [List.append_assoc] at h3
  exact h3
theorem ST.get {w u : World} {k : Nat} {l : List UInt8} {L : List Blk} (h : ST w k l L u) (i : Nat) {g : Nat} {Z : Obj} (hi : L[i]? = some ⟨g, Z⟩) : u.heap[g]? = some Z := h.at_ _ (List.mem_of_getElem? hi)
theorem ST.start {w u : World} {gs gf k n : Nat} {Zs Zf : Obj} (M : Mem ⟨w, []⟩ [⟨gs, Zs⟩, ⟨gf, Zf⟩, ⟨k, .cells (av 2 bF0) 165⟩] u) (h1 : gs < k) (h2 : gf < k) (hs : NR Zs) (hf : NR Zf) (hn : n ≤ 200000) : Calls Tryz.prog 104 #[.pointer (some ⟨k, 0, none⟩), .int .i64 (n : Int)] u fun r u' => r = .returned (.tuple #[]) ∧ ST w k [] [⟨gs, Zs⟩, ⟨gf, Zf⟩] u' := by
  have hkl : k < u.heap.size := (Array.getElem?_eq_some_iff.1 (M.get 2 rfl)).1
  have g1 : w.heap.size ≤ gs := (M.ge _ (List.mem_of_getElem? (i := 0) rfl)).elim id (fun h => by cases h)
  have g2 : w.heap.size ≤ gf := (M.ge _ (List.mem_of_getElem? (i := 1) rfl)).elim id (fun h => by cases h)
  refine (Any.Builder_Grow_fresh (P := Tryz.prog) (ρ := repRen) lays165 repExtra k k n u (Nat.le_refl _) (M.get 2 rfl) (by omega) (by omega)).mono ?_
  rintro r u' ⟨rfl, h3, h4⟩
  have hb0 : Below w.heap.size w u := below_grown M.old
  refine ⟨rfl, hb0.trans (h4.mono (by omega)), by omega, .inr (Lib.BuilderAtF.of h3), ?_, ?_, nrs_cons hs (nrs_cons hf nrs_nil), ?_, ?_⟩
  · intro b hb
    rcases List.mem_cons.1 hb with rfl | hb
    · exact (h4.block gs h1).trans (M.get 0 rfl)
    · rw [List.mem_singleton.1 hb]
      exact (h4.block gf h2).trans (M.get 1 rfl)
  · intro b hb
    rcases List.mem_cons.1 hb with rfl | hb
    · show gs ≠ k
      omega
    · rw [List.mem_singleton.1 hb]
      show gf ≠ k
      omega
  · intro b hb
    rcases List.mem_cons.1 hb with rfl | hb
    · exact g1
    · rw [List.mem_singleton.1 hb]
      exact g2
  · have := M.nodup
    simp at this
    simp [this.1.1]
theorem c_iterT (sg bd : Code) (hb : Tryz.f92.body.bind findRange = some (sg, bd)) (s : ByteArray) (f : Nat → Int) (hz : s.size ≤ 200000) (k gs gc lp D : Nat) (fn : FuncId) (v : Nat → Value) (T : Array Value) (hT : T = tF k gs v) (w u : World) (hL : Laid w)
    (hS : ST w k [] [⟨gs, .cells (av 1 (fun _ => .string s)) 9⟩, ⟨gc, .cells (av 16 (w32 f)) 151⟩, ⟨lp, .loop (lpr .ready none fn T sg bd D)⟩, ⟨D, .deferred (some [])⟩] u) :
    Calls Tryz.prog 122 #[.func (.yield lp) #[] #[], .pointer (some ⟨gc, 0, none⟩)] u fun e u' => (∃ v, e = .returned v) ∧ ∃ r : Loop, r.state ≠ .busy ∧ r.pending = some (.exit 0) ∧ ST w k (ot f s s.size) [⟨gs, .cells (av 1 (fun _ => .string s)) 9⟩, ⟨gc, .cells (av 16 (w32 f)) 151⟩, ⟨lp, .loop r⟩, ⟨D, .deferred (some [])⟩] u' := by
  subst hT
  exact (c_iter sg bd hb s f hz k gs gc lp D fn v w u hL hS).mono fun e u' h => ⟨h.1, lpr .done (some (.exit 0)) fn (tF k gs v) sg bd D, (show LoopState.done ≠ LoopState.busy by decide), rfl, h.2⟩
theorem fr_w {a b : Act} (h : a = b) {c : Code} {P : Program} {Q : Exit → Act → World → Prop} {w : World} (k : c.wp P Q b w) : c.wp P Q a w := by
  rw [h]
  exact k
/-- What a text is turned to. -/
def oS (f : Nat → Int) (s : ByteArray) : ByteArray := ⟨(ot f s s.size).toArray⟩
set_option maxRecDepth 100000 in
set_option maxHeartbeats 4000000 in
theorem c_turned (s : ByteArray) (f : Nat → Int) (hz : s.size ≤ 200000) (w : World) (hL : Laid w) : Calls Tryz.prog 92 #[.string s, .agg (av 16 (w32 f))] w fun r w' => r = .returned (.string (oS f s)) ∧ Below w.heap.size w w' := by
  refine (callsIn_wide (n := 0)).1 (callsIn_of_wp_marks Tryz.func92 rfl trivial ?_)
  refine (wpIn_wide (n := 0)).2 ?_
  refine fr_w (b := (fm ([.string s, .agg (av 16 (w32 f))] ++ und 37))) (by kernel_rfl) ?_
  have M := Mem.start hL
  refine sR ?_
  refine pN M 2 (.cells (av 1 (fun _ => .string s)) 9) fun g1 u1 M => ?_
  refine pN M 3 (.cells (av 16 (w32 f)) 151) fun g2 u2 M => ?_
  refine rV 1 ?_
  refine nT ?_
  refine sR ?_
  refine pl_newB M (want_no rfl) (some 5) rfl (.cells (av 2 bF0) 165) (fun _ => by kernel_rfl) ?_
  intro g3 u3 hlt M
  refine nT ?_
  refine sR ?_
  refine ZE M 10 0 0 ?_
  refine rV 1 ?_
  refine pl_callr (want_no rfl) (some 12) rfl 104 #[.pointer (some ⟨g3, 0, none⟩), .int .i64 (s.size : Int)] (.tuple #[]) _ (fun _ => by kernel_rfl) (ST.start M (hlt _ (List.mem_of_getElem? (i := 0) rfl)) (hlt _ (List.mem_of_getElem? (i := 1) rfl)) (nr_cells _ _ (by decide)) (nr_cells _ _ (by decide)) hz) ?_
  intro u4 hS
  clear M
  have M := hS.mem hL
  refine nT ?_
  refine wp_seq ?_
  refine sR ?_
  refine pA M 13 1 16 (w32 f) ?_
  refine pl_calln M (want_no rfl) (some 14) rfl 105 #[.agg (av 16 (w32 f))] (fun g4 => .func (.func 122) #[] #[.pointer (some ⟨g4, 0, none⟩)]) (.cells (av 16 (w32 f)) 151) (fun _ => by kernel_rfl) (fun w M => c_stream f w M.laid) fun g4 u5 M => ?_
  refine nT ?_
  refine wp_block ?_
  have hS1 := (hS.next M (nrs_cons (nr_cells _ _ (by decide)) (nrs_cons (nr_cells _ _ (by decide)) (nrs_cons (nr_cells _ _ (by decide)) nrs_nil)))).drop (L' := [⟨g1, .cells (av 1 (fun _ => .string s)) 9⟩, ⟨g4, .cells (av 16 (w32 f)) 151⟩]) (.cons_cons _ (.cons _ (.cons_cons _ .slnil)))
  refine fr_w (b := (fm ([.string s, .agg (av 16 (w32 f)), .pointer (some ⟨g1, 0, none⟩), .pointer (some ⟨g2, 0, none⟩), .string ⟨#[]⟩, .pointer (some ⟨g3, 0, none⟩)] ++ und 4 ++ [.string s, .int .i64 (s.size : Int), .tuple #[], .agg (av 16 (w32 f)), .func (.func 122) #[] #[.pointer (some ⟨g4, 0, none⟩)]] ++ und 24))) (by kernel_rfl) ?_
  refine wp_range (gf := 122) (lb := #[.pointer (some ⟨g4, 0, none⟩)]) rfl (enters_of Tryz.func122 (by kernel_rfl) rfl) ?_
  intro fn
  refine (c_iterT _ _ rfl s f hz g3 g1 g4 _ _ fn (fun k_ => ([.string s, .agg (av 16 (w32 f)), .pointer (some ⟨g1, 0, none⟩), .pointer (some ⟨g2, 0, none⟩), .string ⟨#[]⟩, .pointer (some ⟨g3, 0, none⟩), undef, undef, undef, undef, .string s, .int .i64 (s.size : Int), .tuple #[], .agg (av 16 (w32 f)), .func (.func 122) #[] #[.pointer (some ⟨g4, 0, none⟩)], undef, undef, undef, undef, undef, undef, undef, undef, undef, undef, undef, undef, undef, undef, undef, undef, undef, undef, undef, undef, undef, undef, undef, undef] : List Value).getD (k_ - 0) undef) _ (by kernel_rfl) w _ hL ((hS1.alloc2 hL _ _ (nr_def _) (nr_loop _)).perm (.cons _ (.cons _ (.swap _ _ _))))).mono ?_
  rintro e w3 ⟨he, r, hr1, hr2, hS2⟩
  refine ⟨he, r, hS2.get 2 rfl, hr1, ?_⟩
  rw [hr2]
  clear M
  refine wp_exit ?_
  refine au_block_exit ?_
  refine au_then ?_
  refine sR ?_
  refine pl_callr (want_no rfl) (some 38) rfl 107 #[.pointer (some ⟨g3, 0, none⟩)] (.string (oS f s)) _ (fun _ => by kernel_rfl) (hS2.put hL 2 _ _ _ rfl (nr_loop _)).str ?_
  intro u6 hS4
  refine rV 1 ?_
  refine nT ?_
  refine wp_ret ?_
  refine marks_ret (v := .string (oS f s)) rfl (hS4.get 3 rfl) (fun w => results_tmp1 Tryz.results92 _ w _ (by kernel_rfl)) ⟨rfl, (hS4.put hL 3 _ _ (.deferred none) rfl (nr_def _)).bel⟩

end Go.Proofs.YtenafinbaanicaaGreatDoor
namespace Go.Proofs.YtenafinbaanicaaGreatDoor
open Go.RowKit

theorem cvu64 (n : Nat) (h : n < 1000000000000) : cv .u64 (n : Int) = (n : Int) := by
  unfold cv
  simp [IntKind.wrap, IntKind.signed, IntKind.bits]
  omega
theorem wu64 (n : Nat) (h : n < 1000000000000) : IntKind.wrap .u64 (n : Int) = (n : Int) := cvu64 n h
theorem quoU (n : Nat) (h : n < 1000000000000) : IntKind.wrap .u64 ((n : Int).tdiv 64) = ((n / 64 : Nat) : Int) := by
  rw [Int.tdiv_eq_ediv_of_nonneg (by omega), show ((n : Int) / 64) = ((n / 64 : Nat) : Int) by omega, wu64 _ (by omega)]
theorem bl_nn (f : Nat → Int) (i : Nat) : 0 ≤ bl f i ∧ bl f i < 256 := by
  unfold bl cv
  simp [IntKind.wrap, IntKind.signed, IntKind.bits]
  omega
/-- A block's bytes. -/
def blk (f : Nat → Int) : ByteArray := bs ((List.range 64).map (bl f))
theorem blk_size (f : Nat → Int) : (blk f).size = 64 := by
  unfold blk
  rw [bs_size]
  simp
theorem blk_nn (f : Nat → Int) : ∀ x ∈ (List.range 64).map (bl f), 0 ≤ x ∧ x < 256 := fun x hx => by
  obtain ⟨i, _, rfl⟩ := List.mem_map.1 hx
  exact bl_nn f i
def strE : ByteArray := ⟨#[]⟩

set_option maxRecDepth 100000 in
set_option maxHeartbeats 4000000 in
theorem c_areA (key nonce : ByteArray) (hk : key.size = 32) (hn : nonce.size = 12) (w : World) (hL : Laid w)  :
    Calls Tryz.prog 90 #[.string key, .string nonce] w fun r w' => r = .returned (.bool true) ∧ Below w.heap.size w w' := by
  go_enter Tryz.func90, Tryz.ntmps90
  have M := Mem.start hL
  refine sq ?_
  refine sR ?_
  refine rV 2 ?_
  refine ZT 7 ((key.size : Int) = 32) ?_
  refine rV 3 ?_
  refine ZT 11 ((nonce.size : Int) = 12) ?_
  refine rV 2 ?_
  refine nT ?_
  refine wp_ret ?_
  exact b1 M

set_option maxRecDepth 100000 in
set_option maxHeartbeats 4000000 in
theorem c_areB (key nonce : ByteArray) (hk : key.size = 32) (hn : nonce.size ≠ 12) (w : World) (hL : Laid w)  :
    Calls Tryz.prog 90 #[.string key, .string nonce] w fun r w' => r = .returned (.bool false) ∧ Below w.heap.size w w' := by
  go_enter Tryz.func90, Tryz.ntmps90
  have M := Mem.start hL
  refine sq ?_
  refine sR ?_
  refine rV 2 ?_
  refine ZT 7 ((key.size : Int) = 32) ?_
  refine rV 3 ?_
  refine ZF 11 ((nonce.size : Int) = 12) ?_
  refine rV 2 ?_
  refine nT ?_
  refine wp_ret ?_
  exact b1 M

set_option maxRecDepth 100000 in
set_option maxHeartbeats 4000000 in
theorem c_areC (key nonce : ByteArray) (hk : key.size ≠ 32) (w : World) (hL : Laid w)  :
    Calls Tryz.prog 90 #[.string key, .string nonce] w fun r w' => r = .returned (.bool false) ∧ Below w.heap.size w w' := by
  go_enter Tryz.func90, Tryz.ntmps90
  have M := Mem.start hL
  refine sq ?_
  refine sR ?_
  refine rV 2 ?_
  refine ZF 7 ((key.size : Int) = 32) ?_
  refine rV 6 ?_
  refine nT ?_
  refine wp_ret ?_
  exact b1 M

theorem c_are (key nonce : ByteArray) (w : World) (hL : Laid w) : Calls Tryz.prog 90 #[.string key, .string nonce] w fun r w' => r = .returned (.bool (decide (key.size = 32 ∧ nonce.size = 12))) ∧ Below w.heap.size w w' := by
  by_cases hk : key.size = 32
  · by_cases hn : nonce.size = 12
    · rw [decide_eq_true ⟨hk, hn⟩]
      exact c_areA key nonce hk hn w hL
    · rw [decide_eq_false (fun h => hn h.2)]
      exact c_areB key nonce hk hn w hL
  · rw [decide_eq_false (fun h => hk h.1)]
    exact c_areC key nonce hk w hL

set_option maxRecDepth 100000 in
set_option maxHeartbeats 4000000 in
theorem d_mayA (key nonce : ByteArray) (hk : key.size = 32) (hn : nonce.size = 12) (w : World) (hL : Laid w)  :
    Calls Tryz.prog 69 #[.string key, .string nonce] w fun r w' => r = .returned (.bool true) ∧ Below w.heap.size w w' := by
  go_enter Tryz.func69, Tryz.ntmps69
  have M := Mem.start hL
  refine sq ?_
  refine sR ?_
  refine rV 2 ?_
  refine ZT 7 ((key.size : Int) = 32) ?_
  refine rV 3 ?_
  refine ZT 11 ((nonce.size : Int) = 12) ?_
  refine rV 2 ?_
  refine nT ?_
  refine wp_ret ?_
  exact b1 M

set_option maxRecDepth 100000 in
set_option maxHeartbeats 4000000 in
theorem d_mayB (key nonce : ByteArray) (hk : key.size = 32) (hn : nonce.size ≠ 12) (w : World) (hL : Laid w)  :
    Calls Tryz.prog 69 #[.string key, .string nonce] w fun r w' => r = .returned (.bool false) ∧ Below w.heap.size w w' := by
  go_enter Tryz.func69, Tryz.ntmps69
  have M := Mem.start hL
  refine sq ?_
  refine sR ?_
  refine rV 2 ?_
  refine ZT 7 ((key.size : Int) = 32) ?_
  refine rV 3 ?_
  refine ZF 11 ((nonce.size : Int) = 12) ?_
  refine rV 2 ?_
  refine nT ?_
  refine wp_ret ?_
  exact b1 M

set_option maxRecDepth 100000 in
set_option maxHeartbeats 4000000 in
theorem d_mayC (key nonce : ByteArray) (hk : key.size ≠ 32) (w : World) (hL : Laid w)  :
    Calls Tryz.prog 69 #[.string key, .string nonce] w fun r w' => r = .returned (.bool false) ∧ Below w.heap.size w w' := by
  go_enter Tryz.func69, Tryz.ntmps69
  have M := Mem.start hL
  refine sq ?_
  refine sR ?_
  refine rV 2 ?_
  refine ZF 7 ((key.size : Int) = 32) ?_
  refine rV 6 ?_
  refine nT ?_
  refine wp_ret ?_
  exact b1 M

theorem d_may (key nonce : ByteArray) (w : World) (hL : Laid w) : Calls Tryz.prog 69 #[.string key, .string nonce] w fun r w' => r = .returned (.bool (decide (key.size = 32 ∧ nonce.size = 12))) ∧ Below w.heap.size w w' := by
  by_cases hk : key.size = 32
  · by_cases hn : nonce.size = 12
    · rw [decide_eq_true ⟨hk, hn⟩]
      exact d_mayA key nonce hk hn w hL
    · rw [decide_eq_false (fun h => hn h.2)]
      exact d_mayB key nonce hk hn w hL
  · rw [decide_eq_false (fun h => hk h.1)]
    exact d_mayC key nonce hk w hL

set_option maxRecDepth 100000 in
set_option maxHeartbeats 4000000 in
theorem c_need (s : ByteArray) (hz : s.size ≤ 200000) (w : World) (hL : Laid w)  :
    Calls Tryz.prog 91 #[.string s] w fun r w' => r = .returned (.int .u64 (((s.size + 63) / 64 : Nat) : Int)) ∧ Below w.heap.size w w' := by
  go_enter Tryz.func91, Tryz.ntmps91
  have M := Mem.start hL
  refine sq ?_
  refine sR ?_
  refine rV 2 ?_
  refine ZQ 5 .u64 (cv .u64 (s.size : Int)) (cvu64 _ (by omega)) ?_
  refine zJ 6 (.int .u64 ((s.size + 64 : Nat) : Int)) (.int .u64 (IntKind.wrap .u64 ((s.size : Int) + 64))) (by rw [show (s.size : Int) + 64 = ((s.size + 64 : Nat) : Int) by omega, wu64 _ (by omega)]) ?_
  refine zJ 7 (.int .u64 ((s.size + 63 : Nat) : Int)) (.int .u64 (IntKind.wrap .u64 (((s.size + 64 : Nat) : Int) - 1))) (by rw [show ((s.size + 64 : Nat) : Int) - 1 = ((s.size + 63 : Nat) : Int) by omega, wu64 _ (by omega)]) ?_
  refine ZQ 8 .u64 (IntKind.wrap .u64 (((s.size + 63 : Nat) : Int).tdiv 64)) (quoU _ (by omega)) ?_
  refine rV 1 ?_
  refine nT ?_
  refine wp_ret ?_
  exact b1 M

set_option maxRecDepth 100000 in
set_option maxHeartbeats 4000000 in
theorem c_BlockA (key nonce : ByteArray) (n : Int) (hm : (key.size = 32 ∧ nonce.size = 12)) (w : World) (hL : Laid w)  :
    Calls Tryz.prog 94 #[.string key, .string nonce, .int .u32 n] w fun r w' => r = .returned (.tuple #[.string (blk (fw key nonce n)), .int .i64 0]) ∧ Below w.heap.size w w' := by
  go_enter Tryz.func94, Tryz.ntmps94
  have M := Mem.start hL
  refine sq ?_
  refine wp_seq ?_
  refine sR ?_
  refine rV 2 ?_
  refine pC M 11 90 #[.string key, .string nonce] (.bool true) (fun w M => (by rw [← decide_eq_true hm]; exact c_are key nonce w M.laid)) fun u1 M => ?_
  refine rV 1 ?_
  refine nT ?_
  refine wp_cond_false (by kernel_rfl) ?_
  refine wp_skip ?_
  refine au_then ?_
  refine sR ?_
  refine rV 3 ?_
  refine ZC M 16 (fun w M => c_first key nonce n hm.1 hm.2 w M.laid) fun u2 M => ?_
  refine ZC M 17 (fun w M => c_block (fw key nonce n) w M.laid) fun u3 M => ?_
  refine pN M 8 (.cells (av 64 (w8 (fun _ => 0))) 170) fun g1 u4 M => ?_
  refine ZG M 0 64 (w8 (bl (fw key nonce n))) fun u5 M => ?_
  refine nT ?_
  refine sR ?_
  refine rV 1 ?_
  refine pl_back M (want_no rfl) (some 19) rfl _ rfl 0 g1 64 64 (by kernel_rfl) _ rfl ((List.range 64).map (bl (fw key nonce n))) 64 (sb_av 64 _ _) (by simp) (blk_nn _) ?_
  refine rV 2 ?_
  refine nT ?_
  refine wp_ret ?_
  exact b1 M

set_option maxRecDepth 100000 in
set_option maxHeartbeats 4000000 in
theorem c_BlockB (key nonce : ByteArray) (n : Int) (hm : ¬ (key.size = 32 ∧ nonce.size = 12)) (w : World) (hL : Laid w)  :
    Calls Tryz.prog 94 #[.string key, .string nonce, .int .u32 n] w fun r w' => r = .returned (.tuple #[.string ⟨#[]⟩, .int .i64 2]) ∧ Below w.heap.size w w' := by
  go_enter Tryz.func94, Tryz.ntmps94
  have M := Mem.start hL
  refine sq ?_
  refine wp_seq ?_
  refine sR ?_
  refine rV 2 ?_
  refine pC M 11 90 #[.string key, .string nonce] (.bool false) (fun w M => (by rw [← decide_eq_false hm]; exact c_are key nonce w M.laid)) fun u1 M => ?_
  refine rV 1 ?_
  refine nT ?_
  refine wp_cond_true (by kernel_rfl) ?_
  refine sq ?_
  refine wp_ret ?_
  refine au_then_ret ?_
  exact b1 M

set_option maxRecDepth 100000 in
set_option maxHeartbeats 4000000 in
theorem c_TurnA (key nonce : ByteArray) (n : Nat) (hn : n < 4294967296) (s : ByteArray) (hz : s.size ≤ 200000) (hm : (key.size = 32 ∧ nonce.size = 12)) (hl : ¬ (4294967296 < n + (s.size + 63) / 64)) (w : World) (hL : Laid w)  :
    Calls Tryz.prog 78 #[.string key, .string nonce, .int .u32 (n : Int), .string s] w fun r w' => r = .returned (.tuple #[.string (oS (fw key nonce (n : Int)) s), .int .i64 0]) ∧ Below w.heap.size w w' := by
  go_enter Tryz.func78, Tryz.ntmps78
  have M := Mem.start hL
  refine sq ?_
  refine wp_seq ?_
  refine sR ?_
  refine rV 2 ?_
  refine pC M 12 90 #[.string key, .string nonce] (.bool true) (fun w M => (by rw [← decide_eq_true hm]; exact c_are key nonce w M.laid)) fun u1 M => ?_
  refine rV 1 ?_
  refine nT ?_
  refine wp_cond_false (by kernel_rfl) ?_
  refine wp_skip ?_
  refine au_then ?_
  refine wp_seq ?_
  refine sR ?_
  refine rV 1 ?_
  refine ZQ 15 .u64 (cv .u64 (n : Int)) (cvu64 _ (by omega)) ?_
  refine rV 1 ?_
  refine ZC M 17 (fun w M => c_need s hz w M.laid) fun u2 M => ?_
  refine zJ 18 (.int .u64 ((n + (s.size + 63) / 64 : Nat) : Int)) (.int .u64 (IntKind.wrap .u64 ((n : Int) + (((s.size + 63) / 64 : Nat) : Int)))) (by rw [show (n : Int) + (((s.size + 63) / 64 : Nat) : Int) = ((n + (s.size + 63) / 64 : Nat) : Int) by omega, wu64 _ (by omega)]) ?_
  refine ZF 19 ((4294967296 : Int) < ((n + (s.size + 63) / 64 : Nat) : Int)) ?_
  refine nT ?_
  refine wp_cond_false (by kernel_rfl) ?_
  refine wp_skip ?_
  refine au_then ?_
  refine sR ?_
  refine rV 4 ?_
  refine ZC M 24 (fun w M => c_first key nonce (n : Int) hm.1 hm.2 w M.laid) fun u3 M => ?_
  refine ZC M 25 (fun w M => c_turned s (fw key nonce (n : Int)) hz w M.laid) fun u4 M => ?_
  refine rV 2 ?_
  refine nT ?_
  refine wp_ret ?_
  exact b1 M

set_option maxRecDepth 100000 in
set_option maxHeartbeats 4000000 in
theorem c_TurnB (key nonce : ByteArray) (n : Nat) (hn : n < 4294967296) (s : ByteArray) (hz : s.size ≤ 200000) (hm : (key.size = 32 ∧ nonce.size = 12)) (hl : (4294967296 < n + (s.size + 63) / 64)) (w : World) (hL : Laid w)  :
    Calls Tryz.prog 78 #[.string key, .string nonce, .int .u32 (n : Int), .string s] w fun r w' => r = .returned (.tuple #[.string ⟨#[]⟩, .int .i64 4]) ∧ Below w.heap.size w w' := by
  go_enter Tryz.func78, Tryz.ntmps78
  have M := Mem.start hL
  refine sq ?_
  refine wp_seq ?_
  refine sR ?_
  refine rV 2 ?_
  refine pC M 12 90 #[.string key, .string nonce] (.bool true) (fun w M => (by rw [← decide_eq_true hm]; exact c_are key nonce w M.laid)) fun u1 M => ?_
  refine rV 1 ?_
  refine nT ?_
  refine wp_cond_false (by kernel_rfl) ?_
  refine wp_skip ?_
  refine au_then ?_
  refine wp_seq ?_
  refine sR ?_
  refine rV 1 ?_
  refine ZQ 15 .u64 (cv .u64 (n : Int)) (cvu64 _ (by omega)) ?_
  refine rV 1 ?_
  refine ZC M 17 (fun w M => c_need s hz w M.laid) fun u2 M => ?_
  refine zJ 18 (.int .u64 ((n + (s.size + 63) / 64 : Nat) : Int)) (.int .u64 (IntKind.wrap .u64 ((n : Int) + (((s.size + 63) / 64 : Nat) : Int)))) (by rw [show (n : Int) + (((s.size + 63) / 64 : Nat) : Int) = ((n + (s.size + 63) / 64 : Nat) : Int) by omega, wu64 _ (by omega)]) ?_
  refine ZT 19 ((4294967296 : Int) < ((n + (s.size + 63) / 64 : Nat) : Int)) ?_
  refine nT ?_
  refine wp_cond_true (by kernel_rfl) ?_
  refine sq ?_
  refine wp_ret ?_
  refine au_then_ret ?_
  exact b1 M

set_option maxRecDepth 100000 in
set_option maxHeartbeats 4000000 in
theorem c_TurnC (key nonce : ByteArray) (n : Nat) (s : ByteArray) (hm : ¬ (key.size = 32 ∧ nonce.size = 12)) (w : World) (hL : Laid w)  :
    Calls Tryz.prog 78 #[.string key, .string nonce, .int .u32 (n : Int), .string s] w fun r w' => r = .returned (.tuple #[.string ⟨#[]⟩, .int .i64 2]) ∧ Below w.heap.size w w' := by
  go_enter Tryz.func78, Tryz.ntmps78
  have M := Mem.start hL
  refine sq ?_
  refine wp_seq ?_
  refine sR ?_
  refine rV 2 ?_
  refine pC M 12 90 #[.string key, .string nonce] (.bool false) (fun w M => (by rw [← decide_eq_false hm]; exact c_are key nonce w M.laid)) fun u1 M => ?_
  refine rV 1 ?_
  refine nT ?_
  refine wp_cond_true (by kernel_rfl) ?_
  refine sq ?_
  refine wp_ret ?_
  refine au_then_ret ?_
  exact b1 M


end Go.Proofs.YtenafinbaanicaaGreatDoor
namespace Go.Proofs.YtenafinbaanicaaGreatDoor
open Go.RowKit

section
variable {P : Program} {ops : Array Oper} {rest : List Oper} {o : Oper} {a : Act} {w : World} {c : Ctx} {L : List Blk} {Q : Exit → Act → World → Prop}
theorem SB.put {Z : Obj} {cap : Nat} {l : List Value} (h : SB Z cap l) {i : Nat} (hi : i < l.length) (v : Value) {W : World} {g : Nat} (hz : W.heap[g]? = some Z) : ∃ Z', (W.setCell ⟨g, i, none⟩ v).heap[g]? = some Z' ∧ SB Z' cap (l.set i v) := by
  obtain ⟨cs, T, fr, rfl, h1, h2, h3, h4⟩ := h.ex
  refine ⟨.cells (cs.setIfInBounds i v) T fr, ?_, ⟨_, T, fr, rfl, by simpa using h1, by simpa using h2, fun j hj => ?_, h4⟩⟩
  · simp [World.setCell, Array.getElem?_modify, hz]
  · rw [List.length_set] at hj
    rw [Array.getElem?_setIfInBounds, List.getElem?_set]
    by_cases e : i = j
    · subst e
      rw [if_pos rfl, if_pos rfl, if_pos (by omega), if_pos hi]
    · rw [if_neg e, if_neg e, h3 j hj]
theorem SB.free {Z : Obj} {cap : Nat} {l : List Value} (h : SB Z cap l) {i : Nat} (hi : i < l.length) {W : World} {g : Nat} (hz : W.heap[g]? = some Z) : W.frozen? ⟨g, i, none⟩ = false := by
  obtain ⟨cs, T, fr, rfl, h1, h2, h3, h4⟩ := h.ex
  unfold World.frozen?
  rw [hz]
  exact h4 i (by omega)
theorem pl_putS (M : Mem c L w) (hw : Region.wanted o (yielded ops a.tmps) = true) (hd : o.dst = none) (ty : TypeId) (x y : Operand) (ho : o.op = .store ty x y) (i g off : Nat) (hx : a.eval x = .pointer (some ⟨g, off, none⟩)) (Z : Obj) (hi : L[i]? = some ⟨g, Z⟩) (cap : Nat) (l : List Value) (hs : SB Z cap l) (hk : off < l.length) (v : Value)
    (hy : a.eval y = v) (hz : (P.info? ty).map (·.size) = some 1) (h1 : v.oneCell' = true) (hc : v.cells = #[v])
    (h : ∀ Z' w', SB Z' cap (l.set off v) → Mem c (L.set i ⟨g, Z'⟩) w' → PL P ops Q rest a w') : PL P ops Q (o :: rest) a w := by
  have R := M.get i hi
  obtain ⟨Z', h2, h3⟩ := hs.put hk v R
  have h4 := h Z' (w.setCell ⟨g, off, none⟩ v) h3 (M.put i ⟨g, _⟩ hi _ (grown_setCell w g off v) h2)
  have hcell : w.cell? ⟨g, off, none⟩ = some l[off] := hs.cell R (List.getElem?_eq_getElem hk)
  have hrun : (Instr.storeAt ty (.pointer (some ⟨g, off, none⟩)) v).run P w = .ok () (w.setCell ⟨g, off, none⟩ v) := by
    cases hq : P.info? ty with
    | none => simp [hq] at hz
    | some t =>
      have ht : t.size = 1 := by simpa [hq] using hz
      have hcc := run_storeCells_cells (P := P) g off [v] 0 w (by intro j hj; simp at hj; subst hj; simp [hcell]) (by intro j hj; simp at hj; subst hj; simpa using hs.free hk R) (by simpa using h1)
      simp only [Nat.add_zero, World.setCells] at hcc
      simp [Instr.storeAt, Instr.sureAddr, storeVar, sizeOf, typeInfo, hq, ht, hc, hcc]
  refine ⟨Go.BigFrame.wpList_want hw fun K hK => ?_⟩
  unfold Oper.wp execOp
  simp only [ho, hx, hy, Sem.run_bind, hrun, Result.andThen_ok, Sem.run_pure]
  show K (a.put o.dst undef) _
  rw [hd]
  exact hK _ _ h4.out
end
/-- Four bytes, the lowest first. -/
def wd4 (s : ByteArray) : Int := vo (vo (vo (cv .u32 (bt s 0)) (vl (cv .u32 (bt s 1)) 8)) (vl (cv .u32 (bt s 2)) 16)) (vl (cv .u32 (bt s 3)) 24)

set_option maxRecDepth 100000 in
set_option maxHeartbeats 4000000 in
theorem d_word (s : ByteArray) (hs : s.size = 4) (w : World) (hL : Laid w)  :
    Calls Tryz.prog 99 #[.string s] w fun r w' => r = .returned (.int .u32 (wd4 s)) ∧ Below w.heap.size w w' := by
  go_enter Tryz.func99, Tryz.ntmps99
  have M := Mem.start hL
  refine sq ?_
  refine wp_seq ?_
  refine rg_tail M 18 (by kernel_rfl) (by kernel_rfl) ?_
  simp only [List.take_succ_cons, List.take_zero]
  refine kR 1 ?_
  refine kH 4 (.int .u8 (bt s 0)) (run_ixS 9 Tryz.underlying9 _ _ rfl s (by kernel_rfl) .i64 0 (by kernel_rfl) (by omega)) ?_
  refine kR 2 ?_
  refine kH 7 (.int .u8 (bt s 1)) (run_ixS 9 Tryz.underlying9 _ _ rfl s (by kernel_rfl) .i64 1 (by kernel_rfl) (by omega)) ?_
  refine kR 4 ?_
  refine kH 12 (.int .u8 (bt s 2)) (run_ixS 9 Tryz.underlying9 _ _ rfl s (by kernel_rfl) .i64 2 (by kernel_rfl) (by omega)) ?_
  refine kR 4 ?_
  refine kH 17 (.int .u8 (bt s 3)) (run_ixS 9 Tryz.underlying9 _ _ rfl s (by kernel_rfl) .i64 3 (by kernel_rfl) (by omega)) ?_
  refine kR 3 ?_
  refine kl_nil fun u1 M => ?_
  refine rV 1 ?_
  refine nT ?_
  refine wp_ret ?_
  exact b1 M

def e1 (v : Nat → Int) (p0 p1 : Nat) : Nat → Int := upd v p0 (va (v p0) (v p1))
def e2 (v : Nat → Int) (p0 p1 p3 : Nat) : Nat → Int := upd (e1 v p0 p1) p3 (vx ((e1 v p0 p1) p3) ((e1 v p0 p1) p0))
def e3 (v : Nat → Int) (p0 p1 p3 : Nat) : Nat → Int := upd (e2 v p0 p1 p3) p3 (rl ((e2 v p0 p1 p3) p3) 16)
def e4 (v : Nat → Int) (p0 p1 p2 p3 : Nat) : Nat → Int := upd (e3 v p0 p1 p3) p2 (va ((e3 v p0 p1 p3) p2) ((e3 v p0 p1 p3) p3))
def e5 (v : Nat → Int) (p0 p1 p2 p3 : Nat) : Nat → Int := upd (e4 v p0 p1 p2 p3) p1 (vx ((e4 v p0 p1 p2 p3) p1) ((e4 v p0 p1 p2 p3) p2))
def e6 (v : Nat → Int) (p0 p1 p2 p3 : Nat) : Nat → Int := upd (e5 v p0 p1 p2 p3) p1 (rl ((e5 v p0 p1 p2 p3) p1) 12)
def e7 (v : Nat → Int) (p0 p1 p2 p3 : Nat) : Nat → Int := upd (e6 v p0 p1 p2 p3) p0 (va ((e6 v p0 p1 p2 p3) p0) ((e6 v p0 p1 p2 p3) p1))
def e8 (v : Nat → Int) (p0 p1 p2 p3 : Nat) : Nat → Int := upd (e7 v p0 p1 p2 p3) p3 (vx ((e7 v p0 p1 p2 p3) p3) ((e7 v p0 p1 p2 p3) p0))
def e9 (v : Nat → Int) (p0 p1 p2 p3 : Nat) : Nat → Int := upd (e8 v p0 p1 p2 p3) p3 (rl ((e8 v p0 p1 p2 p3) p3) 8)
def e10 (v : Nat → Int) (p0 p1 p2 p3 : Nat) : Nat → Int := upd (e9 v p0 p1 p2 p3) p2 (va ((e9 v p0 p1 p2 p3) p2) ((e9 v p0 p1 p2 p3) p3))
def e11 (v : Nat → Int) (p0 p1 p2 p3 : Nat) : Nat → Int := upd (e10 v p0 p1 p2 p3) p1 (vx ((e10 v p0 p1 p2 p3) p1) ((e10 v p0 p1 p2 p3) p2))
def e12 (v : Nat → Int) (p0 p1 p2 p3 : Nat) : Nat → Int := upd (e11 v p0 p1 p2 p3) p1 (rl ((e11 v p0 p1 p2 p3) p1) 7)
theorem up_at (f : Nat → Int) (k : Nat) (x : Int) : upd f k x k = x := if_pos rfl
theorem up_ne (f : Nat → Int) (k : Nat) (x : Int) {j : Nat} (h : j ≠ k) : upd f k x j = f j := if_neg h
theorem up_up (f : Nat → Int) (k : Nat) (x y : Int) : upd (upd f k x) k y = upd f k y := by
  funext t
  unfold upd
  split <;> rfl
theorem up_comm (f : Nat → Int) {i j : Nat} (h : i ≠ j) (x y : Int) : upd (upd f i x) j y = upd (upd f j y) i x := by
  funext t
  unfold upd
  by_cases h1 : t = j
  · subst h1
    rw [if_pos rfl, if_neg (Ne.symm h), if_pos rfl]
  · rw [if_neg h1, if_neg h1]
theorem e12_eq (v : Nat → Int) (i j k l : Nat) (hij : i ≠ j) (hik : i ≠ k) (hil : i ≠ l) (hjk : j ≠ k) (hjl : j ≠ l) (hkl : k ≠ l) : e12 v i j k l = mxF v i j k l := by
  have a3 : e3 v i j l = upd (upd v i (mA1 v i j)) l (mD1 v i j l) := by
    unfold e3 e2 e1 mD1 mA1
    rw [up_up, up_at, up_ne _ _ _ (Ne.symm hil), up_at]
  have a4 : e4 v i j k l = upd (upd (upd v i (mA1 v i j)) l (mD1 v i j l)) k (mC1 v i j k l) := by
    unfold e4 mC1
    rw [a3, up_at, up_ne _ _ _ hkl, up_ne _ _ _ (Ne.symm hik)]
  have a6 : e6 v i j k l = upd (upd (upd (upd v i (mA1 v i j)) l (mD1 v i j l)) k (mC1 v i j k l)) j (mB1 v i j k l) := by
    unfold e6 e5 mB1
    rw [up_up, up_at, a4, up_at, up_ne _ _ _ hjk, up_ne _ _ _ hjl, up_ne _ _ _ (Ne.symm hij)]
  have a7 : e7 v i j k l = upd (e6 v i j k l) i (mA2 v i j k l) := by
    unfold e7 mA2
    rw [a6, up_at, up_ne _ _ _ hij, up_ne _ _ _ hik, up_ne _ _ _ hil, up_at]
  have a9 : e9 v i j k l = upd (e7 v i j k l) l (mD2 v i j k l) := by
    unfold e9 e8 mD2
    rw [up_up, up_at, a7, up_at, a6, up_ne _ _ _ (Ne.symm hil), up_ne _ _ _ (Ne.symm hjl), up_ne _ _ _ (Ne.symm hkl), up_at]
  have a10 : e10 v i j k l = upd (e9 v i j k l) k (mC2 v i j k l) := by
    unfold e10 mC2
    rw [a9, up_at, a7, a6, up_ne _ _ _ hkl, up_ne _ _ _ (Ne.symm hik), up_ne _ _ _ (Ne.symm hjk), up_at]
  have a12 : e12 v i j k l = upd (e10 v i j k l) j (mB2 v i j k l) := by
    unfold e12 e11 mB2
    rw [up_up, up_at, a10, up_at, a9, a7, a6, up_ne _ _ _ hjk, up_ne _ _ _ hjl, up_ne _ _ _ (Ne.symm hij), up_at]
  rw [a12, a10, a9, a7, a6]
  funext t
  unfold mxF upd
  by_cases h1 : t = l
  · subst h1
    simp [Ne.symm hjl, Ne.symm hkl]
  · by_cases h2 : t = k
    · subst h2
      simp [h1, Ne.symm hjk]
    · by_cases h3 : t = j
      · subst h3
        simp [h1, h2]
      · by_cases h4 : t = i
        · subst h4
          simp [h1, h2, h3]
        · simp [h1, h2, h3, h4]

set_option maxRecDepth 100000 in
set_option maxHeartbeats 4000000 in
theorem d_quarter (v : Nat → Int) (p0 p1 p2 p3 : Nat) (h0 : p0 < 16) (h1 : p1 < 16) (h2 : p2 < 16) (h3 : p3 < 16) (d0 : p0 ≠ p1) (d1 : p0 ≠ p2) (d2 : p0 ≠ p3) (d3 : p1 ≠ p2) (d4 : p1 ≠ p3) (d5 : p2 ≠ p3) (w : World) (hL : Laid w)  :
    Calls Tryz.prog 100 #[.agg (av 16 (w32 v)), .int .i64 (p0 : Int), .int .i64 (p1 : Int), .int .i64 (p2 : Int), .int .i64 (p3 : Int)] w fun r w' => r = .returned (.agg (av 16 (w32 (mxF v p0 p1 p2 p3)))) ∧ Below w.heap.size w w' := by
  go_enter Tryz.func100, Tryz.ntmps100
  have M := Mem.start hL
  refine sR ?_
  refine pN M 5 (.cells (av 16 (w32 v)) 150) fun g1 u1 M => ?_
  refine pN M 10 (.cells (av 16 (w32 (fun _ => 0))) 150) fun g2 u2 M => ?_
  refine nT ?_
  refine wp_seq ?_
  refine rg_tail M 9 (by kernel_rfl) (by kernel_rfl) ?_
  simp only [List.take_succ_cons, List.take_zero]
  refine kR 2 ?_
  refine eX 13 .i64 g1 (p0) 16 ?_
  refine eE M 14 0 p0 ?_
  refine kR 1 ?_
  refine eX 16 .i64 g1 (p1) 16 ?_
  refine eE M 17 0 p1 ?_
  refine kR 1 ?_
  refine eX 19 .i64 g1 (p0) 16 ?_
  refine kl_nil fun u3 M => ?_
  refine ZP32 M 0 p0 (va (v p0) (v p1)) fun u4 M => ?_
  refine nT ?_
  refine wp_seq ?_
  refine rg_tail M 9 (by kernel_rfl) (by kernel_rfl) ?_
  simp only [List.take_succ_cons, List.take_zero]
  refine kR 2 ?_
  refine eX 22 .i64 g1 (p3) 16 ?_
  refine eE M 23 0 p3 ?_
  refine kR 1 ?_
  refine eX 25 .i64 g1 (p0) 16 ?_
  refine eE M 26 0 p0 ?_
  refine kR 1 ?_
  refine eX 28 .i64 g1 (p3) 16 ?_
  refine kl_nil fun u5 M => ?_
  refine ZP32 M 0 p3 (vx ((e1 v p0 p1) p3) ((e1 v p0 p1) p0)) fun u6 M => ?_
  refine nT ?_
  refine wp_seq ?_
  refine rg_tail M 11 (by kernel_rfl) (by kernel_rfl) ?_
  simp only [List.take_succ_cons, List.take_zero]
  refine kR 2 ?_
  refine eX 31 .i64 g1 (p3) 16 ?_
  refine eE M 32 0 p3 ?_
  refine kR 2 ?_
  refine eX 35 .i64 g1 (p3) 16 ?_
  refine eE M 36 0 p3 ?_
  refine kR 2 ?_
  refine eX 39 .i64 g1 (p3) 16 ?_
  refine kl_nil fun u7 M => ?_
  refine ZP32 M 0 p3 (vo (vl ((e2 v p0 p1 p3) p3) 16) (sr ((e2 v p0 p1 p3) p3) 16)) fun u8 M => ?_
  refine nT ?_
  refine wp_seq ?_
  refine rg_tail M 9 (by kernel_rfl) (by kernel_rfl) ?_
  simp only [List.take_succ_cons, List.take_zero]
  refine kR 2 ?_
  refine eX 42 .i64 g1 (p2) 16 ?_
  refine eE M 43 0 p2 ?_
  refine kR 1 ?_
  refine eX 45 .i64 g1 (p3) 16 ?_
  refine eE M 46 0 p3 ?_
  refine kR 1 ?_
  refine eX 48 .i64 g1 (p2) 16 ?_
  refine kl_nil fun u9 M => ?_
  refine ZP32 M 0 p2 (va ((e3 v p0 p1 p3) p2) ((e3 v p0 p1 p3) p3)) fun u10 M => ?_
  refine nT ?_
  refine wp_seq ?_
  refine rg_tail M 9 (by kernel_rfl) (by kernel_rfl) ?_
  simp only [List.take_succ_cons, List.take_zero]
  refine kR 2 ?_
  refine eX 51 .i64 g1 (p1) 16 ?_
  refine eE M 52 0 p1 ?_
  refine kR 1 ?_
  refine eX 54 .i64 g1 (p2) 16 ?_
  refine eE M 55 0 p2 ?_
  refine kR 1 ?_
  refine eX 57 .i64 g1 (p1) 16 ?_
  refine kl_nil fun u11 M => ?_
  refine ZP32 M 0 p1 (vx ((e4 v p0 p1 p2 p3) p1) ((e4 v p0 p1 p2 p3) p2)) fun u12 M => ?_
  refine nT ?_
  refine wp_seq ?_
  refine rg_tail M 11 (by kernel_rfl) (by kernel_rfl) ?_
  simp only [List.take_succ_cons, List.take_zero]
  refine kR 2 ?_
  refine eX 60 .i64 g1 (p1) 16 ?_
  refine eE M 61 0 p1 ?_
  refine kR 2 ?_
  refine eX 64 .i64 g1 (p1) 16 ?_
  refine eE M 65 0 p1 ?_
  refine kR 2 ?_
  refine eX 68 .i64 g1 (p1) 16 ?_
  refine kl_nil fun u13 M => ?_
  refine ZP32 M 0 p1 (vo (vl ((e5 v p0 p1 p2 p3) p1) 12) (sr ((e5 v p0 p1 p2 p3) p1) 20)) fun u14 M => ?_
  refine nT ?_
  refine wp_seq ?_
  refine rg_tail M 9 (by kernel_rfl) (by kernel_rfl) ?_
  simp only [List.take_succ_cons, List.take_zero]
  refine kR 2 ?_
  refine eX 71 .i64 g1 (p0) 16 ?_
  refine eE M 72 0 p0 ?_
  refine kR 1 ?_
  refine eX 74 .i64 g1 (p1) 16 ?_
  refine eE M 75 0 p1 ?_
  refine kR 1 ?_
  refine eX 77 .i64 g1 (p0) 16 ?_
  refine kl_nil fun u15 M => ?_
  refine ZP32 M 0 p0 (va ((e6 v p0 p1 p2 p3) p0) ((e6 v p0 p1 p2 p3) p1)) fun u16 M => ?_
  refine nT ?_
  refine wp_seq ?_
  refine rg_tail M 9 (by kernel_rfl) (by kernel_rfl) ?_
  simp only [List.take_succ_cons, List.take_zero]
  refine kR 2 ?_
  refine eX 80 .i64 g1 (p3) 16 ?_
  refine eE M 81 0 p3 ?_
  refine kR 1 ?_
  refine eX 83 .i64 g1 (p0) 16 ?_
  refine eE M 84 0 p0 ?_
  refine kR 1 ?_
  refine eX 86 .i64 g1 (p3) 16 ?_
  refine kl_nil fun u17 M => ?_
  refine ZP32 M 0 p3 (vx ((e7 v p0 p1 p2 p3) p3) ((e7 v p0 p1 p2 p3) p0)) fun u18 M => ?_
  refine nT ?_
  refine wp_seq ?_
  refine rg_tail M 11 (by kernel_rfl) (by kernel_rfl) ?_
  simp only [List.take_succ_cons, List.take_zero]
  refine kR 2 ?_
  refine eX 89 .i64 g1 (p3) 16 ?_
  refine eE M 90 0 p3 ?_
  refine kR 2 ?_
  refine eX 93 .i64 g1 (p3) 16 ?_
  refine eE M 94 0 p3 ?_
  refine kR 2 ?_
  refine eX 97 .i64 g1 (p3) 16 ?_
  refine kl_nil fun u19 M => ?_
  refine ZP32 M 0 p3 (vo (vl ((e8 v p0 p1 p2 p3) p3) 8) (sr ((e8 v p0 p1 p2 p3) p3) 24)) fun u20 M => ?_
  refine nT ?_
  refine wp_seq ?_
  refine rg_tail M 9 (by kernel_rfl) (by kernel_rfl) ?_
  simp only [List.take_succ_cons, List.take_zero]
  refine kR 2 ?_
  refine eX 100 .i64 g1 (p2) 16 ?_
  refine eE M 101 0 p2 ?_
  refine kR 1 ?_
  refine eX 103 .i64 g1 (p3) 16 ?_
  refine eE M 104 0 p3 ?_
  refine kR 1 ?_
  refine eX 106 .i64 g1 (p2) 16 ?_
  refine kl_nil fun u21 M => ?_
  refine ZP32 M 0 p2 (va ((e9 v p0 p1 p2 p3) p2) ((e9 v p0 p1 p2 p3) p3)) fun u22 M => ?_
  refine nT ?_
  refine wp_seq ?_
  refine rg_tail M 9 (by kernel_rfl) (by kernel_rfl) ?_
  simp only [List.take_succ_cons, List.take_zero]
  refine kR 2 ?_
  refine eX 109 .i64 g1 (p1) 16 ?_
  refine eE M 110 0 p1 ?_
  refine kR 1 ?_
  refine eX 112 .i64 g1 (p2) 16 ?_
  refine eE M 113 0 p2 ?_
  refine kR 1 ?_
  refine eX 115 .i64 g1 (p1) 16 ?_
  refine kl_nil fun u23 M => ?_
  refine ZP32 M 0 p1 (vx ((e10 v p0 p1 p2 p3) p1) ((e10 v p0 p1 p2 p3) p2)) fun u24 M => ?_
  refine nT ?_
  refine wp_seq ?_
  refine rg_tail M 11 (by kernel_rfl) (by kernel_rfl) ?_
  simp only [List.take_succ_cons, List.take_zero]
  refine kR 2 ?_
  refine eX 118 .i64 g1 (p1) 16 ?_
  refine eE M 119 0 p1 ?_
  refine kR 2 ?_
  refine eX 122 .i64 g1 (p1) 16 ?_
  refine eE M 123 0 p1 ?_
  refine kR 2 ?_
  refine eX 126 .i64 g1 (p1) 16 ?_
  refine kl_nil fun u25 M => ?_
  refine ZP32 M 0 p1 (vo (vl ((e11 v p0 p1 p2 p3) p1) 7) (sr ((e11 v p0 p1 p2 p3) p1) 25)) fun u26 M => ?_
  refine nT ?_
  refine sR ?_
  refine pA M 127 0 16 (w32 (e12 v p0 p1 p2 p3)) ?_
  refine ZG M 1 16 (w32 (e12 v p0 p1 p2 p3)) fun u27 M => ?_
  refine nT ?_
  refine wp_ret ?_
  refine bodyPost_ret (v := .agg (av 16 (w32 (mxF v p0 p1 p2 p3)))) (Eq.trans (b := .ok (.agg (av 16 (w32 (e12 v p0 p1 p2 p3)))) _) (results_cell_row Tryz.results100 _ _ g2 150 (av 16 (w32 (e12 v p0 p1 p2 p3))) (0, 0) _ (by kernel_rfl) (M.get 1 rfl) Tryz.underlying150 rfl (by rw [av_size]; exact inz150)) (by rw [e12_eq v p0 p1 p2 p3 d0 d1 d2 d3 d4 d5])) (by kernel_rfl) ⟨rfl, below_grown M.old⟩

/-- The bytes of a number. -/
def nb (n : Int) : Nat → Int
  | 0 => cv .u8 n
  | 1 => cv .u8 (sr n 8)
  | 2 => cv .u8 (sr n 16)
  | 3 => cv .u8 (sr n 24)
  | _ => 0
theorem cv8_nn (x : Int) : 0 ≤ cv .u8 x ∧ cv .u8 x < 256 := by
  unfold cv
  simp [IntKind.wrap, IntKind.signed, IntKind.bits]
  omega
theorem nb_nn (n : Int) : ∀ x ∈ (List.range 4).map (nb n), 0 ≤ x ∧ x < 256 := fun x hx => by
  obtain ⟨i, hi, rfl⟩ := List.mem_map.1 hx
  have hi := List.mem_range.1 hi
  rcases i with _ | _ | _ | _ | i
  · exact cv8_nn _
  · exact cv8_nn _
  · exact cv8_nn _
  · exact cv8_nn _
  · omega
def nB (n : Int) : ByteArray := bs ((List.range 4).map (nb n))
theorem nB_size (n : Int) : (nB n).size = 4 := by
  unfold nB
  rw [bs_size]
  rfl
/-- All bytes that a block begins with. -/
def alS (key nonce : ByteArray) (n : Int) : ByteArray := strK ++ key ++ nB n ++ nonce
theorem strK_size : strK.size = 16 := rfl
theorem alS_size (key nonce : ByteArray) (n : Int) (hk : key.size = 32) (hn : nonce.size = 12) : (alS key nonce n).size = 64 := by
  unfold alS
  rw [ByteArray.size_append, ByteArray.size_append, ByteArray.size_append, nB_size, strK_size, hk, hn]
/-- Their words, up to a place. -/
def dx (al : ByteArray) : Nat → (Nat → Int)
  | 0 => fun _ => 0
  | j + 1 => upd (dx al j) j (wd4 (al.extract (4 * j) (4 * j + 4)))
def dk (x : Nat → Int) : Nat → (Nat → Int)
  | 0 => fun _ => 0
  | j + 1 => upd (dk x j) j (cv .u8 (sr (va (x (j / 4)) (rd x 10 (j / 4))) (8 * (j % 4))))
def dbl (x : Nat → Int) (i : Nat) : Int := cv .u8 (sr (va (x (i / 4)) (rd x 10 (i / 4))) (8 * (i % 4)))
theorem dk_at (x : Nat → Int) : ∀ n, ∀ i, i < n → dk x n i = dbl x i
  | 0, i, h => absurd h (by omega)
  | n + 1, i, h => by
    unfold dk upd
    by_cases e : i = n
    · rw [if_pos e, e]
      rfl
    · rw [if_neg e, dk_at x n i (by omega)]
theorem dk_map (x : Nat → Int) : (List.range 64).map (dk x 64) = (List.range 64).map (dbl x) := List.map_congr_left fun i hi => dk_at x 64 i (List.mem_range.1 hi)
theorem dbl_nn (x : Nat → Int) : ∀ y ∈ (List.range 64).map (dbl x), 0 ≤ y ∧ y < 256 := fun y hy => by
  obtain ⟨i, _, rfl⟩ := List.mem_map.1 hy
  exact cv8_nn _
/-- The document's block. -/
def dbk (key nonce : ByteArray) (n : Int) : ByteArray := bs ((List.range 64).map (dbl (dx (alS key nonce n) 16)))
theorem dbk_size (key nonce : ByteArray) (n : Int) : (dbk key nonce n).size = 64 := by
  unfold dbk
  rw [bs_size]
  simp

set_option maxRecDepth 100000 in
set_option maxHeartbeats 4000000 in
theorem d_Block (key nonce : ByteArray) (n : Int) (hk : key.size = 32) (hn : nonce.size = 12) (w : World) (hL : Laid w)  :
    Calls Tryz.prog 87 #[.string key, .string nonce, .int .u32 n] w fun r w' => r = .returned (.string (dbk key nonce n)) ∧ Below w.heap.size w w' := by
  go_enter Tryz.func87, Tryz.ntmps87
  have M := Mem.start hL
  refine sq ?_
  refine sR ?_
  refine rV 1 ?_
  refine pH 15 (.string (strK ++ key)) (run_cat 9 9 _ _ rfl strK key (by kernel_rfl) (by kernel_rfl) (by rw [strK_size, hk]; decide)) ?_
  refine rV 11 ?_
  refine ZM M 27 (fun g1 => .slice (some ⟨g1, 0, none⟩) 4 4) (.cells (av 4 (w8 (nb n))) 5) fun g1 u1 M => ?_
  refine pl_back M (want_no rfl) (some 28) rfl _ rfl 0 g1 4 4 (by kernel_rfl) _ rfl ((List.range 4).map (nb n)) 4 (sb_av 4 _ _) (by simp) (nb_nn _) ?_
  refine pH 29 (.string (strK ++ key ++ nB n)) (run_cat 9 9 _ _ rfl (strK ++ key) (nB n) (by kernel_rfl) (by kernel_rfl) (by rw [ByteArray.size_append, strK_size, hk, nB_size]; decide)) ?_
  refine rV 1 ?_
  refine pH 31 (.string (alS key nonce n)) (run_cat 9 9 _ _ rfl (strK ++ key ++ nB n) nonce (by kernel_rfl) (by kernel_rfl) (by rw [ByteArray.size_append, ByteArray.size_append, strK_size, hk, nB_size, hn]; decide)) ?_
  refine rV 1 ?_
  refine nT ?_
  refine sR ?_
  refine pN M 8 (.cells (av 16 (w32 (fun _ => 0))) 150) fun g2 u2 M => ?_
  refine nT ?_
  refine wp_seq ?_
  refine sq ?_
  refine wp_block ?_
  refine au_loop (fun j a w' => ∃ v1 : Nat → Value, a = (fm ([.string key, .string nonce, .int .u32 n] ++ vr v1 3 3 ++ [.string ⟨#[]⟩, .string (alS key nonce n), .pointer (some ⟨g2, 0, none⟩), .int .i64 (j : Int)] ++ vr v1 10 82)) ∧ Mem ⟨w, []⟩ [⟨g1, .cells (av 4 (w8 (nb n))) 5⟩, ⟨g2, .cells (av 16 (w32 (dx (alS key nonce n) j))) 150⟩] w') 16 (exS M) ?_ ?_
  · intro j a u0 hj hI
    obtain ⟨v1, rfl, M⟩ := hI
    refine wp_seq ?_
    refine sR ?_
    refine rV 1 ?_
    refine ZT 33 ((j : Int) < 16) ?_
    refine nT ?_
    refine wp_cond_true (by kernel_rfl) ?_
    refine wp_skip ?_
    refine au_then ?_
    refine wp_seq ?_
    refine wp_block ?_
    refine rg_lit ?_
    refine rV 3 ?_
    refine ZI 39 (4 * (j : Int)) ((4 * j : Nat) : Int) ?_
    refine rV 1 ?_
    refine ZI 41 (4 * (j : Int)) ((4 * j : Nat) : Int) ?_
    refine ZI 42 (((4 * j : Nat) : Int) + 4) ((4 * j + 4 : Nat) : Int) ?_
    refine pH 43 (.string ((alS key nonce n).extract (4 * j) (4 * j + 4))) (run_strlh 9 Tryz.underlying9 _ _ _ rfl (alS key nonce n) (by kernel_rfl) .i64 .i64 (4 * j) (4 * j + 4) (by kernel_rfl) (by kernel_rfl) (by omega) (by rw [alS_size key nonce n hk hn]; omega)) ?_
    refine pC M 44 99 #[.string ((alS key nonce n).extract (4 * j) (4 * j + 4))] (.int .u32 (wd4 ((alS key nonce n).extract (4 * j) (4 * j + 4)))) (fun w M => d_word _ (by rw [ByteArray.size_extract, alS_size key nonce n hk hn]; omega) w M.laid) fun u3 M => ?_
    refine ZX 45 .i64 g2 (j) 16 ?_
    refine ZP32 M 1 j (wd4 ((alS key nonce n).extract (4 * j) (4 * j + 4))) fun u4 M => ?_
    refine pl_nil ?_
    refine au_block ?_
    refine au_then ?_
    refine rg_lit ?_
    refine rV 1 ?_
    refine ZI 35 ((j : Int) + 1) ((j + 1 : Nat) : Int) ?_
    refine rV 1 ?_
    refine nT ?_
    exact exS M
  · intro a u0 hI
    obtain ⟨v1, rfl, M⟩ := hI
    refine wp_seq ?_
    refine sR ?_
    refine rV 1 ?_
    refine ZF 33 (16 < 16) ?_
    refine nT ?_
    refine wp_cond_false (by kernel_rfl) ?_
    refine wp_exit ?_
    refine au_then_exit ?_
    refine au_then_exit ?_
    refine au_block_exit ?_
    refine au_then ?_
    refine sR ?_
    refine pA M 46 1 16 (w32 (dx (alS key nonce n) 16)) ?_
    refine pN M 10 (.cells (av 16 (w32 (fun _ => 0))) 150) fun g3 u5 M => ?_
    refine ZG M 2 16 (w32 (dx (alS key nonce n) 16)) fun u6 M => ?_
    refine nT ?_
    refine wp_seq ?_
    refine sq ?_
    refine wp_block ?_
    refine au_loop (fun j a w' => ∃ v2 : Nat → Value, a = (fm ([.string key, .string nonce, .int .u32 n] ++ vr v2 3 3 ++ [.string ⟨#[]⟩, .string (alS key nonce n), .pointer (some ⟨g2, 0, none⟩), .int .i64 (16 : Int), .pointer (some ⟨g3, 0, none⟩), .int .i64 (j : Int)] ++ vr v2 12 80)) ∧ Mem ⟨w, []⟩ [⟨g1, .cells (av 4 (w8 (nb n))) 5⟩, ⟨g2, .cells (av 16 (w32 (dx (alS key nonce n) 16))) 150⟩, ⟨g3, .cells (av 16 (w32 (rd (dx (alS key nonce n) 16) j))) 150⟩] w') 10 (exS M) ?_ ?_
    · intro j a u0 hj hI
      obtain ⟨v2, rfl, M⟩ := hI
      refine wp_seq ?_
      refine sR ?_
      refine rV 1 ?_
      refine ZT 48 ((j : Int) < 10) ?_
      refine nT ?_
      refine wp_cond_true (by kernel_rfl) ?_
      refine wp_skip ?_
      refine au_then ?_
      refine wp_seq ?_
      refine wp_block ?_
      refine sR ?_
      refine pA M 51 2 16 (w32 (rd (dx (alS key nonce n) 16) j)) ?_
      refine ZC M 52 (fun w M => d_quarter (rd (dx (alS key nonce n) 16) j) 0 4 8 12 (by decide) (by decide) (by decide) (by decide) (by decide) (by decide) (by decide) (by decide) (by decide) (by decide) w M.laid) fun u7 M => ?_
      refine ZG M 2 16 (w32 (rn1 (rd (dx (alS key nonce n) 16) j))) fun u8 M => ?_
      refine nT ?_
      refine sR ?_
      refine pA M 53 2 16 (w32 (rn1 (rd (dx (alS key nonce n) 16) j))) ?_
      refine ZC M 54 (fun w M => d_quarter (rn1 (rd (dx (alS key nonce n) 16) j)) 1 5 9 13 (by decide) (by decide) (by decide) (by decide) (by decide) (by decide) (by decide) (by decide) (by decide) (by decide) w M.laid) fun u9 M => ?_
      refine ZG M 2 16 (w32 (rn2 (rd (dx (alS key nonce n) 16) j))) fun u10 M => ?_
      refine nT ?_
      refine sR ?_
      refine pA M 55 2 16 (w32 (rn2 (rd (dx (alS key nonce n) 16) j))) ?_
      refine ZC M 56 (fun w M => d_quarter (rn2 (rd (dx (alS key nonce n) 16) j)) 2 6 10 14 (by decide) (by decide) (by decide) (by decide) (by decide) (by decide) (by decide) (by decide) (by decide) (by decide) w M.laid) fun u11 M => ?_
      refine ZG M 2 16 (w32 (rn3 (rd (dx (alS key nonce n) 16) j))) fun u12 M => ?_
      refine nT ?_
      refine sR ?_
      refine pA M 57 2 16 (w32 (rn3 (rd (dx (alS key nonce n) 16) j))) ?_
      refine ZC M 58 (fun w M => d_quarter (rn3 (rd (dx (alS key nonce n) 16) j)) 3 7 11 15 (by decide) (by decide) (by decide) (by decide) (by decide) (by decide) (by decide) (by decide) (by decide) (by decide) w M.laid) fun u13 M => ?_
      refine ZG M 2 16 (w32 (rn4 (rd (dx (alS key nonce n) 16) j))) fun u14 M => ?_
      refine nT ?_
      refine sR ?_
      refine pA M 59 2 16 (w32 (rn4 (rd (dx (alS key nonce n) 16) j))) ?_
      refine ZC M 60 (fun w M => d_quarter (rn4 (rd (dx (alS key nonce n) 16) j)) 0 5 10 15 (by decide) (by decide) (by decide) (by decide) (by decide) (by decide) (by decide) (by decide) (by decide) (by decide) w M.laid) fun u15 M => ?_
      refine ZG M 2 16 (w32 (rn5 (rd (dx (alS key nonce n) 16) j))) fun u16 M => ?_
      refine nT ?_
      refine sR ?_
      refine pA M 61 2 16 (w32 (rn5 (rd (dx (alS key nonce n) 16) j))) ?_
      refine ZC M 62 (fun w M => d_quarter (rn5 (rd (dx (alS key nonce n) 16) j)) 1 6 11 12 (by decide) (by decide) (by decide) (by decide) (by decide) (by decide) (by decide) (by decide) (by decide) (by decide) w M.laid) fun u17 M => ?_
      refine ZG M 2 16 (w32 (rn6 (rd (dx (alS key nonce n) 16) j))) fun u18 M => ?_
      refine nT ?_
      refine sR ?_
      refine pA M 63 2 16 (w32 (rn6 (rd (dx (alS key nonce n) 16) j))) ?_
      refine ZC M 64 (fun w M => d_quarter (rn6 (rd (dx (alS key nonce n) 16) j)) 2 7 8 13 (by decide) (by decide) (by decide) (by decide) (by decide) (by decide) (by decide) (by decide) (by decide) (by decide) w M.laid) fun u19 M => ?_
      refine ZG M 2 16 (w32 (rn7 (rd (dx (alS key nonce n) 16) j))) fun u20 M => ?_
      refine nT ?_
      refine rg_lit ?_
      refine pA M 65 2 16 (w32 (rn7 (rd (dx (alS key nonce n) 16) j))) ?_
      refine ZC M 66 (fun w M => d_quarter (rn7 (rd (dx (alS key nonce n) 16) j)) 3 4 9 14 (by decide) (by decide) (by decide) (by decide) (by decide) (by decide) (by decide) (by decide) (by decide) (by decide) w M.laid) fun u21 M => ?_
      refine ZG M 2 16 (w32 (rn8 (rd (dx (alS key nonce n) 16) j))) fun u22 M => ?_
      refine pl_nil ?_
      refine au_block ?_
      refine au_then ?_
      refine rg_lit ?_
      refine rV 1 ?_
      refine ZI 50 ((j : Int) + 1) ((j + 1 : Nat) : Int) ?_
      refine rV 1 ?_
      refine nT ?_
      exact exS M
    · intro a u0 hI
      obtain ⟨v2, rfl, M⟩ := hI
      refine wp_seq ?_
      refine sR ?_
      refine rV 1 ?_
      refine ZF 48 (10 < 10) ?_
      refine nT ?_
      refine wp_cond_false (by kernel_rfl) ?_
      refine wp_exit ?_
      refine au_then_exit ?_
      refine au_then_exit ?_
      refine au_block_exit ?_
      refine au_then ?_
      refine sR ?_
      refine ZM M 67 (fun g4 => .slice (some ⟨g4, 0, none⟩) 64 64) (.cells (av 64 (w8 (dk (dx (alS key nonce n) 16) 0))) 5) fun g4 u23 M => ?_
      refine rV 1 ?_
      refine nT ?_
      refine wp_seq ?_
      refine sq ?_
      refine wp_block ?_
      refine au_loop (fun j a w' => ∃ v3 : Nat → Value, a = (fm ([.string key, .string nonce, .int .u32 n] ++ vr v3 3 3 ++ [.string ⟨#[]⟩, .string (alS key nonce n), .pointer (some ⟨g2, 0, none⟩), .int .i64 (16 : Int), .pointer (some ⟨g3, 0, none⟩), .int .i64 (10 : Int), .slice (some ⟨g4, 0, none⟩) 64 64, .int .i64 (j : Int)] ++ vr v3 14 78)) ∧ Mem ⟨w, []⟩ [⟨g1, .cells (av 4 (w8 (nb n))) 5⟩, ⟨g2, .cells (av 16 (w32 (dx (alS key nonce n) 16))) 150⟩, ⟨g3, .cells (av 16 (w32 (rd (dx (alS key nonce n) 16) 10))) 150⟩, ⟨g4, .cells (av 64 (w8 (dk (dx (alS key nonce n) 16) j))) 5⟩] w') 64 (exS M) ?_ ?_
      · intro j a u0 hj hI
        obtain ⟨v3, rfl, M⟩ := hI
        refine wp_seq ?_
        refine sR ?_
        refine rV 1 ?_
        refine ZT 69 ((j : Int) < 64) ?_
        refine nT ?_
        refine wp_cond_true (by kernel_rfl) ?_
        refine wp_skip ?_
        refine au_then ?_
        refine wp_seq ?_
        refine wp_block ?_
        refine rg_tail M 18 (by kernel_rfl) (by kernel_rfl) ?_
        simp only [List.take_succ_cons, List.take_zero]
        refine kR 3 ?_
        refine eQ 75 .i64 (IntKind.wrap .i64 ((j : Int).tdiv 4)) (quo4 j (by omega)) ?_
        refine eX 76 .i64 g2 ((j / 4 : Nat)) 16 ?_
        refine eE M 77 1 ((j / 4 : Nat)) ?_
        refine kR 1 ?_
        refine eQ 79 .i64 (IntKind.wrap .i64 ((j : Int).tdiv 4)) (quo4 j (by omega)) ?_
        refine eX 80 .i64 g3 ((j / 4 : Nat)) 16 ?_
        refine eE M 81 2 ((j / 4 : Nat)) ?_
        refine kR 2 ?_
        refine eQ 84 .i64 (Int.tmod (j : Int) 4) (rem4 j) ?_
        refine eI 85 (8 * ((j % 4 : Nat) : Int)) ((8 * (j % 4) : Nat) : Int) ?_
        refine eQ 86 .u64 (cv .u64 ((8 * (j % 4) : Nat) : Int)) (cvu64 _ (by omega)) ?_
        refine kH 87 (.int .u32 (sr (va ((dx (alS key nonce n) 16) (j / 4)) (rd (dx (alS key nonce n) 16) 10 (j / 4))) (8 * (j % 4)))) (run_shrV 67 147 _ _ rfl _ .u64 (8 * (j % 4)) (by kernel_rfl) (by kernel_rfl) (by omega)) ?_
        refine kR 1 ?_
        refine kH 89 (.pointer (some ⟨g4, j, none⟩)) (run_ix0 97 5 Tryz.underlying97 inz5 _ _ rfl g4 64 64 (by kernel_rfl) .i64 j (by kernel_rfl) hj) ?_
        refine kl_nil fun u24 M => ?_
        refine ZP8 M 3 j (cv .u8 (sr (va ((dx (alS key nonce n) 16) (j / 4)) (rd (dx (alS key nonce n) 16) 10 (j / 4))) (8 * (j % 4)))) fun u25 M => ?_
        refine pl_nil ?_
        refine au_block ?_
        refine au_then ?_
        refine rg_lit ?_
        refine rV 1 ?_
        refine ZI 71 ((j : Int) + 1) ((j + 1 : Nat) : Int) ?_
        refine rV 1 ?_
        refine nT ?_
        exact exS M
      · intro a u0 hI
        obtain ⟨v3, rfl, M⟩ := hI
        refine wp_seq ?_
        refine sR ?_
        refine rV 1 ?_
        refine ZF 69 (64 < 64) ?_
        refine nT ?_
        refine wp_cond_false (by kernel_rfl) ?_
        refine wp_exit ?_
        refine au_then_exit ?_
        refine au_then_exit ?_
        refine au_block_exit ?_
        refine au_then ?_
        refine sR ?_
        refine rV 1 ?_
        refine pl_back M (want_no rfl) (some 91) rfl _ rfl 3 g4 64 64 (by kernel_rfl) _ rfl ((List.range 64).map (dk (dx (alS key nonce n) 16) 64)) 64 (sb_av 64 _ _) (by simp) (by rw [dk_map]; exact dbl_nn _) ?_
        rw [dk_map]
        refine rV 1 ?_
        refine nT ?_
        refine wp_ret ?_
        exact b1 M


end Go.Proofs.YtenafinbaanicaaGreatDoor
namespace Go.Proofs.YtenafinbaanicaaGreatDoor
open Go.RowKit

/-- A byte of a text, as the document turns it. -/
def dob (key nonce : ByteArray) (n : Int) (s : ByteArray) (i : Nat) : Int := xb (bt s i) (bt (dbk key nonce (va n ((i / 64 : Nat) : Int))) (i % 64))
/-- The bytes, turned up to a place. -/
def dl (s : ByteArray) (g : Nat → Int) (j : Nat) : List Int := (List.range s.size).map fun i => if i < j then g i else bt s i
theorem dl_length (s : ByteArray) (g : Nat → Int) (j : Nat) : (dl s g j).length = s.size := by simp [dl]
theorem dl_zero (s : ByteArray) (g : Nat → Int) : sb s = dl s g 0 := by
  refine List.ext_getElem? fun i => ?_
  by_cases h : i < s.size
  · rw [sb_get s i h]
    simp [dl, h]
  · rw [List.getElem?_eq_none (by rw [sb_length]; omega), List.getElem?_eq_none (by rw [dl_length]; omega)]
theorem dl_get (s : ByteArray) (g : Nat → Int) (j : Nat) (h : j < s.size) : (vs8 (dl s g j))[j]? = some (.int .u8 (bt s j)) := by
  simp [vs8, dl, h]
theorem dl_set (s : ByteArray) (g : Nat → Int) (j : Nat) (h : j < s.size) : (vs8 (dl s g j)).set j (.int .u8 (g j)) = vs8 (dl s g (j + 1)) := by
  refine List.ext_getElem? fun i => ?_
  rw [List.getElem?_set]
  by_cases e : j = i
  · subst e
    rw [if_pos rfl, if_pos (by rw [vs8_length, dl_length]; exact h)]
    simp [vs8, dl, h]
  · rw [if_neg e]
    by_cases hi : i < s.size
    · simp only [vs8, dl, List.map_map, List.getElem?_map, List.getElem?_range hi]
      simp only [Option.map_some, Function.comp]
      by_cases h2 : i < j
      · rw [if_pos h2, if_pos (by omega)]
      · rw [if_neg h2, if_neg (by omega)]
    · rw [List.getElem?_eq_none (by rw [vs8_length, dl_length]; omega), List.getElem?_eq_none (by rw [vs8_length, dl_length]; omega)]
theorem dl_full (s : ByteArray) (g : Nat → Int) : dl s g s.size = (List.range s.size).map g := List.map_congr_left fun _ hi => if_pos (List.mem_range.1 hi)
/-- The document's text, turned. -/
def dT (key nonce : ByteArray) (n : Int) (s : ByteArray) : ByteArray := bs ((List.range s.size).map (dob key nonce n s))
theorem dob_nn (key nonce : ByteArray) (n : Int) (s : ByteArray) : ∀ x ∈ (List.range s.size).map (dob key nonce n s), 0 ≤ x ∧ x < 256 := fun x hx => by
  obtain ⟨i, _, rfl⟩ := List.mem_map.1 hx
  exact xb_nn _ _
/-- The block at hand ahead of a place. -/
def kS (key nonce : ByteArray) (n : Int) : Nat → ByteArray
  | 0 => strE
  | j + 1 => dbk key nonce (va n ((j / 64 : Nat) : Int))
theorem kS_at (key nonce : ByteArray) (n : Int) (j : Nat) (h : j % 64 ≠ 0) : kS key nonce n j = dbk key nonce (va n ((j / 64 : Nat) : Int)) := by
  rcases j with _ | j
  · exact absurd rfl h
  · show dbk key nonce (va n ((j / 64 : Nat) : Int)) = _
    rw [show (j + 1) / 64 = j / 64 by omega]
theorem cvu32 (n : Nat) (h : n < 4294967296) : cv .u32 (n : Int) = (n : Int) := wrap32_nat n h

set_option maxRecDepth 100000 in
set_option maxHeartbeats 4000000 in
theorem d_TurnA (key nonce : ByteArray) (n : Nat) (hn : n < 4294967296) (s : ByteArray) (hz : s.size ≤ 200000) (hm : (key.size = 32 ∧ nonce.size = 12)) (hl : ¬ (4294967296 < n + (s.size + 63) / 64)) (w : World) (hL : Laid w)  :
    Calls Tryz.prog 70 #[.string key, .string nonce, .int .u32 (n : Int), .string s] w fun r w' => r = .returned (.tuple #[.string (dT key nonce (n : Int) s), .int .i64 0]) ∧ Below w.heap.size w w' := by
  go_enter Tryz.func70, Tryz.ntmps70
  have M := Mem.start hL
  refine sq ?_
  refine wp_seq ?_
  refine sR ?_
  refine rV 2 ?_
  refine pC M 16 69 #[.string key, .string nonce] (.bool true) (fun w M => (by rw [← decide_eq_true hm]; exact d_may key nonce w M.laid)) fun u1 M => ?_
  refine rV 1 ?_
  refine nT ?_
  refine wp_cond_false (by kernel_rfl) ?_
  refine wp_skip ?_
  refine au_then ?_
  refine sR ?_
  refine rV 2 ?_
  refine ZI 20 ((s.size : Int) + 63) ((s.size + 63 : Nat) : Int) ?_
  refine ZQ 21 .u64 (cv .u64 ((s.size + 63 : Nat) : Int)) (cvu64 _ (by omega)) ?_
  refine ZQ 22 .u64 (IntKind.wrap .u64 (((s.size + 63 : Nat) : Int).tdiv 64)) (quoU _ (by omega)) ?_
  refine rV 1 ?_
  refine nT ?_
  refine wp_seq ?_
  refine sR ?_
  refine rV 1 ?_
  refine ZQ 24 .u64 (cv .u64 (n : Int)) (cvu64 _ (by omega)) ?_
  refine rV 1 ?_
  refine zJ 26 (.int .u64 ((n + (s.size + 63) / 64 : Nat) : Int)) (.int .u64 (IntKind.wrap .u64 ((n : Int) + (((s.size + 63) / 64 : Nat) : Int)))) (by rw [show (n : Int) + (((s.size + 63) / 64 : Nat) : Int) = ((n + (s.size + 63) / 64 : Nat) : Int) by omega, wu64 _ (by omega)]) ?_
  refine ZF 27 ((4294967296 : Int) < ((n + (s.size + 63) / 64 : Nat) : Int)) ?_
  refine nT ?_
  refine wp_cond_false (by kernel_rfl) ?_
  refine wp_skip ?_
  refine au_then ?_
  refine sR ?_
  refine rV 1 ?_
  refine pl_conv M (want_no rfl) (some 29) rfl _ rfl s (by kernel_rfl) ?_
  intro gq capq Zq u2 hZq M
  rw [dl_zero s (dob key nonce (n : Int) s)] at hZq
  refine rV 1 ?_
  refine nT ?_
  refine sq ?_
  refine wp_seq ?_
  refine sq ?_
  refine wp_block ?_
  refine au_loop (fun j a u => ∃ (v1 : Nat → Value) (Zq : Obj), a = (fm ([.string key, .string nonce, .int .u32 (n : Int), .string s] ++ und 4 ++ [.string ⟨#[]⟩, .int .i64 0, .int .u64 (((s.size + 63) / 64 : Nat) : Int), .slice (some ⟨gq, 0, none⟩) s.size capq, .string (kS key nonce (n : Int) j), .int .i64 (j : Int), .string key, .string nonce, .bool true, .bool false, .string s, .int .i64 (s.size : Int), .int .i64 ((s.size + 63 : Nat) : Int), .int .u64 ((s.size + 63 : Nat) : Int), .int .u64 (((s.size + 63) / 64 : Nat) : Int), .int .u32 (n : Int), .int .u64 (n : Int), .int .u64 (((s.size + 63) / 64 : Nat) : Int), .int .u64 ((n + (s.size + 63) / 64 : Nat) : Int), .bool false, .string s, .slice (some ⟨gq, 0, none⟩) s.size capq] ++ vr v1 30 29 ++ [undef, undef])) ∧ SB Zq capq (vs8 (dl s (dob key nonce (n : Int) s) j)) ∧ Mem ⟨w, []⟩ [⟨gq, Zq⟩] u) s.size (exS2 Zq ⟨hZq, M⟩) ?_ ?_
  · intro j a u0 hj hI
    clear M hZq
    obtain ⟨v1, Zq, rfl, hZq, M⟩ := hI
    by_cases h64 : j % 64 = 0
    · skip
      refine wp_seq ?_
      refine sR ?_
      refine rV 3 ?_
      refine ZT 33 ((j : Int) < ((s.size : Nat) : Int)) ?_
      refine nT ?_
      refine wp_cond_true (by kernel_rfl) ?_
      refine wp_skip ?_
      refine au_then ?_
      refine wp_seq ?_
      refine wp_block ?_
      refine wp_seq ?_
      refine sR ?_
      refine rV 1 ?_
      refine ZQ 37 .i64 (Int.tmod (j : Int) 64) (rem64 j) ?_
      refine ZT 38 (((j % 64 : Nat) : Int) = 0) ?_
      refine nT ?_
      refine wp_cond_true (by kernel_rfl) ?_
      refine rg_lit ?_
      refine rV 4 ?_
      refine ZQ 43 .i64 (IntKind.wrap .i64 ((j : Int).tdiv 64)) (quo64 j (by omega)) ?_
      refine zJ 44 (.int .u32 ((j / 64 : Nat) : Int)) (.int .u32 (cv .u32 ((j / 64 : Nat) : Int))) (by rw [cvu32 _ (by omega)]) ?_
      refine rV 1 ?_
      refine pC M 46 87 #[.string key, .string nonce, .int .u32 (va (n : Int) ((j / 64 : Nat) : Int))] (.string (dbk key nonce (va (n : Int) ((j / 64 : Nat) : Int)))) (fun w M => d_Block key nonce _ hm.1 hm.2 w M.laid) fun u3 M => ?_
      refine rV 1 ?_
      refine nT ?_
      refine rgh M [⟨gq, Zq⟩] 12 fun u4 M => ?_
      refine qV M 0 47 (.slice (some ⟨gq, 0, none⟩) s.size capq) ?_
      refine qV M 1 48 (.int .i64 (j : Int)) ?_
      refine qV M 2 49 (.slice (some ⟨gq, 0, none⟩) s.size capq) ?_
      refine qV M 3 50 (.int .i64 (j : Int)) ?_
      refine qH M 4 51 (.pointer (some ⟨gq, j, none⟩)) (fun w _ => (run_ix0 97 5 Tryz.underlying97 inz5 _ _ rfl gq s.size capq (by kernel_rfl) .i64 j (by kernel_rfl) hj) w) ?_
      refine qC M 5 52 gq j (.int .u8 (bt s j)) (fun w M => hZq.cell (M.get 0 rfl) (dl_get s (dob key nonce (n : Int) s) j hj)) ?_
      refine qV M 6 53 (.string (dbk key nonce (va (n : Int) ((j / 64 : Nat) : Int)))) ?_
      refine qV M 7 54 (.int .i64 (j : Int)) ?_
      refine qH M 8 55 (.int .i64 ((j % 64 : Nat) : Int)) (fun w _ => (fun w => Eq.trans (b := .ok (.value (.int .i64 (Int.tmod (j : Int) 64))) w) (by kernel_rfl) (by rw [rem64 j])) w) ?_
      refine qH M 9 56 (.int .u8 (bt (dbk key nonce (va (n : Int) ((j / 64 : Nat) : Int))) (j % 64))) (fun w _ => (run_ixS 9 Tryz.underlying9 _ _ rfl (dbk key nonce (va (n : Int) ((j / 64 : Nat) : Int))) (by kernel_rfl) .i64 (j % 64) (by kernel_rfl) (by rw [dbk_size]; omega)) w) ?_
      refine qH M 10 57 (.int .u8 (dob key nonce (n : Int) s j)) (fun w _ => (fun w => Eq.trans (b := .ok (.value (.int .u8 (xb (bt s j) (bt (dbk key nonce (va (n : Int) ((j / 64 : Nat) : Int))) (j % 64))))) w) (by kernel_rfl) (by unfold dob; rfl)) w) ?_
      refine qH M 11 58 (.pointer (some ⟨gq, j, none⟩)) (fun w _ => (run_ix0 97 5 Tryz.underlying97 inz5 _ _ rfl gq s.size capq (by kernel_rfl) .i64 j (by kernel_rfl) hj) w) ?_
      refine qZ ?_
      refine pl_putS M (want_no rfl) rfl 5 _ _ rfl 0 gq j (by kernel_rfl) Zq rfl capq _ hZq (by rw [vs8_length, dl_length]; exact hj) (.int .u8 (dob key nonce (n : Int) s j)) (by kernel_rfl) inz5 rfl rfl ?_
      intro Zp u5 hZp M
      rw [dl_set s (dob key nonce (n : Int) s) j hj] at hZp
      refine nT ?_
      refine au_block ?_
      refine au_then ?_
      refine rg_lit ?_
      refine rV 1 ?_
      refine ZI 35 ((j : Int) + 1) ((j + 1 : Nat) : Int) ?_
      refine rV 1 ?_
      refine nT ?_
      exact exS2 Zp ⟨hZp, M⟩
    · skip
      rw [kS_at key nonce (n : Int) j h64]
      refine wp_seq ?_
      refine sR ?_
      refine rV 3 ?_
      refine ZT 33 ((j : Int) < ((s.size : Nat) : Int)) ?_
      refine nT ?_
      refine wp_cond_true (by kernel_rfl) ?_
      refine wp_skip ?_
      refine au_then ?_
      refine wp_seq ?_
      refine wp_block ?_
      refine wp_seq ?_
      refine sR ?_
      refine rV 1 ?_
      refine ZQ 37 .i64 (Int.tmod (j : Int) 64) (rem64 j) ?_
      refine ZF 38 (((j % 64 : Nat) : Int) = 0) ?_
      refine nT ?_
      refine wp_cond_false (by kernel_rfl) ?_
      refine wp_skip ?_
      refine au_then ?_
      refine rgh M [⟨gq, Zq⟩] 12 fun u6 M => ?_
      refine qV M 0 47 (.slice (some ⟨gq, 0, none⟩) s.size capq) ?_
      refine qV M 1 48 (.int .i64 (j : Int)) ?_
      refine qV M 2 49 (.slice (some ⟨gq, 0, none⟩) s.size capq) ?_
      refine qV M 3 50 (.int .i64 (j : Int)) ?_
      refine qH M 4 51 (.pointer (some ⟨gq, j, none⟩)) (fun w _ => (run_ix0 97 5 Tryz.underlying97 inz5 _ _ rfl gq s.size capq (by kernel_rfl) .i64 j (by kernel_rfl) hj) w) ?_
      refine qC M 5 52 gq j (.int .u8 (bt s j)) (fun w M => hZq.cell (M.get 0 rfl) (dl_get s (dob key nonce (n : Int) s) j hj)) ?_
      refine qV M 6 53 (.string (dbk key nonce (va (n : Int) ((j / 64 : Nat) : Int)))) ?_
      refine qV M 7 54 (.int .i64 (j : Int)) ?_
      refine qH M 8 55 (.int .i64 ((j % 64 : Nat) : Int)) (fun w _ => (fun w => Eq.trans (b := .ok (.value (.int .i64 (Int.tmod (j : Int) 64))) w) (by kernel_rfl) (by rw [rem64 j])) w) ?_
      refine qH M 9 56 (.int .u8 (bt (dbk key nonce (va (n : Int) ((j / 64 : Nat) : Int))) (j % 64))) (fun w _ => (run_ixS 9 Tryz.underlying9 _ _ rfl (dbk key nonce (va (n : Int) ((j / 64 : Nat) : Int))) (by kernel_rfl) .i64 (j % 64) (by kernel_rfl) (by rw [dbk_size]; omega)) w) ?_
      refine qH M 10 57 (.int .u8 (dob key nonce (n : Int) s j)) (fun w _ => (fun w => Eq.trans (b := .ok (.value (.int .u8 (xb (bt s j) (bt (dbk key nonce (va (n : Int) ((j / 64 : Nat) : Int))) (j % 64))))) w) (by kernel_rfl) (by unfold dob; rfl)) w) ?_
      refine qH M 11 58 (.pointer (some ⟨gq, j, none⟩)) (fun w _ => (run_ix0 97 5 Tryz.underlying97 inz5 _ _ rfl gq s.size capq (by kernel_rfl) .i64 j (by kernel_rfl) hj) w) ?_
      refine qZ ?_
      refine pl_putS M (want_no rfl) rfl 5 _ _ rfl 0 gq j (by kernel_rfl) Zq rfl capq _ hZq (by rw [vs8_length, dl_length]; exact hj) (.int .u8 (dob key nonce (n : Int) s j)) (by kernel_rfl) inz5 rfl rfl ?_
      intro Zp u7 hZp M
      rw [dl_set s (dob key nonce (n : Int) s) j hj] at hZp
      refine nT ?_
      refine au_block ?_
      refine au_then ?_
      refine rg_lit ?_
      refine rV 1 ?_
      refine ZI 35 ((j : Int) + 1) ((j + 1 : Nat) : Int) ?_
      refine rV 1 ?_
      refine nT ?_
      exact exS2 Zp ⟨hZp, M⟩
  · intro a u0 hI
    clear M hZq
    obtain ⟨v1, Zq, rfl, hZq, M⟩ := hI
    refine wp_seq ?_
    refine sR ?_
    refine rV 3 ?_
    refine ZF 33 ((s.size : Int) < ((s.size : Nat) : Int)) ?_
    refine nT ?_
    refine wp_cond_false (by kernel_rfl) ?_
    refine wp_exit ?_
    refine au_then_exit ?_
    refine au_then_exit ?_
    refine au_block_exit ?_
    refine au_then ?_
    refine sR ?_
    refine rV 1 ?_
    refine pl_back M (want_no rfl) (some 60) rfl _ rfl 0 gq s.size capq (by kernel_rfl) _ rfl (dl s (dob key nonce (n : Int) s) s.size) capq hZq (dl_length _ _ _) (by rw [dl_full]; exact dob_nn _ _ _ _) ?_
    rw [dl_full]
    refine rV 2 ?_
    refine nT ?_
    refine wp_ret ?_
    exact b1 M

set_option maxRecDepth 100000 in
set_option maxHeartbeats 4000000 in
theorem d_TurnB (key nonce : ByteArray) (n : Nat) (hn : n < 4294967296) (s : ByteArray) (hz : s.size ≤ 200000) (hm : (key.size = 32 ∧ nonce.size = 12)) (hl : (4294967296 < n + (s.size + 63) / 64)) (w : World) (hL : Laid w)  :
    Calls Tryz.prog 70 #[.string key, .string nonce, .int .u32 (n : Int), .string s] w fun r w' => r = .returned (.tuple #[.string ⟨#[]⟩, .int .i64 4]) ∧ Below w.heap.size w w' := by
  go_enter Tryz.func70, Tryz.ntmps70
  have M := Mem.start hL
  refine sq ?_
  refine wp_seq ?_
  refine sR ?_
  refine rV 2 ?_
  refine pC M 16 69 #[.string key, .string nonce] (.bool true) (fun w M => (by rw [← decide_eq_true hm]; exact d_may key nonce w M.laid)) fun u1 M => ?_
  refine rV 1 ?_
  refine nT ?_
  refine wp_cond_false (by kernel_rfl) ?_
  refine wp_skip ?_
  refine au_then ?_
  refine sR ?_
  refine rV 2 ?_
  refine ZI 20 ((s.size : Int) + 63) ((s.size + 63 : Nat) : Int) ?_
  refine ZQ 21 .u64 (cv .u64 ((s.size + 63 : Nat) : Int)) (cvu64 _ (by omega)) ?_
  refine ZQ 22 .u64 (IntKind.wrap .u64 (((s.size + 63 : Nat) : Int).tdiv 64)) (quoU _ (by omega)) ?_
  refine rV 1 ?_
  refine nT ?_
  refine wp_seq ?_
  refine sR ?_
  refine rV 1 ?_
  refine ZQ 24 .u64 (cv .u64 (n : Int)) (cvu64 _ (by omega)) ?_
  refine rV 1 ?_
  refine zJ 26 (.int .u64 ((n + (s.size + 63) / 64 : Nat) : Int)) (.int .u64 (IntKind.wrap .u64 ((n : Int) + (((s.size + 63) / 64 : Nat) : Int)))) (by rw [show (n : Int) + (((s.size + 63) / 64 : Nat) : Int) = ((n + (s.size + 63) / 64 : Nat) : Int) by omega, wu64 _ (by omega)]) ?_
  refine ZT 27 ((4294967296 : Int) < ((n + (s.size + 63) / 64 : Nat) : Int)) ?_
  refine nT ?_
  refine wp_cond_true (by kernel_rfl) ?_
  refine sq ?_
  refine wp_ret ?_
  refine au_then_ret ?_
  exact b1 M

set_option maxRecDepth 100000 in
set_option maxHeartbeats 4000000 in
theorem d_TurnC (key nonce : ByteArray) (n : Nat) (s : ByteArray) (hm : ¬ (key.size = 32 ∧ nonce.size = 12)) (w : World) (hL : Laid w)  :
    Calls Tryz.prog 70 #[.string key, .string nonce, .int .u32 (n : Int), .string s] w fun r w' => r = .returned (.tuple #[.string ⟨#[]⟩, .int .i64 2]) ∧ Below w.heap.size w w' := by
  go_enter Tryz.func70, Tryz.ntmps70
  have M := Mem.start hL
  refine sq ?_
  refine wp_seq ?_
  refine sR ?_
  refine rV 2 ?_
  refine pC M 16 69 #[.string key, .string nonce] (.bool false) (fun w M => (by rw [← decide_eq_false hm]; exact d_may key nonce w M.laid)) fun u1 M => ?_
  refine rV 1 ?_
  refine nT ?_
  refine wp_cond_true (by kernel_rfl) ?_
  refine sq ?_
  refine wp_ret ?_
  refine au_then_ret ?_
  exact b1 M


end Go.Proofs.YtenafinbaanicaaGreatDoor
namespace Go.Proofs.YtenafinbaanicaaGreatDoor
open Go.RowKit

theorem cv32 (c : Int) (h0 : 0 ≤ c) (h1 : c < 256) : cv .u32 c = c := by
  unfold cv
  obtain ⟨n, rfl⟩ : ∃ n : Nat, c = (n : Int) := ⟨c.toNat, by omega⟩
  exact wrap32_nat n (by omega)
theorem vl_nat (x k : Nat) (h : x * 2 ^ k < 4294967296) : vl (x : Int) k = ((x * 2 ^ k : Nat) : Int) := by
  unfold vl
  rw [← wrap32_nat _ h]
  congr 1
theorem vo_nat (x y : Nat) (hx : x < 4294967296) (hy : y < 4294967296) : vo (x : Int) (y : Int) = ((x ||| y : Nat) : Int) := by
  unfold vo
  have h1 : BitVec.ofInt 32 (x : Int) = BitVec.ofNat 32 x := by
    apply BitVec.eq_of_toNat_eq
    rw [BitVec.toNat_ofInt, BitVec.toNat_ofNat]
    omega
  have h2 : BitVec.ofInt 32 (y : Int) = BitVec.ofNat 32 y := by
    apply BitVec.eq_of_toNat_eq
    rw [BitVec.toNat_ofInt, BitVec.toNat_ofNat]
    omega
  rw [h1, h2, wrap32_nat _ (BitVec.isLt _), BitVec.toNat_or, BitVec.toNat_ofNat, BitVec.toNat_ofNat, Nat.mod_eq_of_lt (by omega), Nat.mod_eq_of_lt (by omega)]
theorem vo_add (k x c : Nat) (hx : x < 2 ^ k) (h : 2 ^ k * c + x < 4294967296) : vo (x : Int) ((2 ^ k * c : Nat) : Int) = ((2 ^ k * c + x : Nat) : Int) := by
  rw [vo_nat _ _ (by omega) (by omega), Nat.or_comm, Nat.two_pow_add_eq_or_of_lt hx c]
theorem vo_vl0 (x c : Int) (hx0 : 0 ≤ x) (hx : x < 1) (hc0 : 0 ≤ c) (hc : c < 256) : vo x (vl (cv .u32 c) 0) = x + 1 * c := by
  rw [cv32 c hc0 hc]
  obtain ⟨a, rfl⟩ : ∃ a : Nat, x = (a : Int) := ⟨x.toNat, by omega⟩
  obtain ⟨b, rfl⟩ : ∃ b : Nat, c = (b : Int) := ⟨c.toNat, by omega⟩
  rw [vl_nat b 0 (by omega), show b * 2 ^ 0 = 2 ^ 0 * b by omega, vo_add 0 a b (by omega) (by omega)]
  omega
theorem vo_vl1 (x c : Int) (hx0 : 0 ≤ x) (hx : x < 256) (hc0 : 0 ≤ c) (hc : c < 256) : vo x (vl (cv .u32 c) 8) = x + 256 * c := by
  rw [cv32 c hc0 hc]
  obtain ⟨a, rfl⟩ : ∃ a : Nat, x = (a : Int) := ⟨x.toNat, by omega⟩
  obtain ⟨b, rfl⟩ : ∃ b : Nat, c = (b : Int) := ⟨c.toNat, by omega⟩
  rw [vl_nat b 8 (by omega), show b * 2 ^ 8 = 2 ^ 8 * b by omega, vo_add 8 a b (by omega) (by omega)]
  omega
theorem vo_vl2 (x c : Int) (hx0 : 0 ≤ x) (hx : x < 65536) (hc0 : 0 ≤ c) (hc : c < 256) : vo x (vl (cv .u32 c) 16) = x + 65536 * c := by
  rw [cv32 c hc0 hc]
  obtain ⟨a, rfl⟩ : ∃ a : Nat, x = (a : Int) := ⟨x.toNat, by omega⟩
  obtain ⟨b, rfl⟩ : ∃ b : Nat, c = (b : Int) := ⟨c.toNat, by omega⟩
  rw [vl_nat b 16 (by omega), show b * 2 ^ 16 = 2 ^ 16 * b by omega, vo_add 16 a b (by omega) (by omega)]
  omega
theorem vo_vl3 (x c : Int) (hx0 : 0 ≤ x) (hx : x < 16777216) (hc0 : 0 ≤ c) (hc : c < 256) : vo x (vl (cv .u32 c) 24) = x + 16777216 * c := by
  rw [cv32 c hc0 hc]
  obtain ⟨a, rfl⟩ : ∃ a : Nat, x = (a : Int) := ⟨x.toNat, by omega⟩
  obtain ⟨b, rfl⟩ : ∃ b : Nat, c = (b : Int) := ⟨c.toNat, by omega⟩
  rw [vl_nat b 24 (by omega), show b * 2 ^ 24 = 2 ^ 24 * b by omega, vo_add 24 a b (by omega) (by omega)]
  omega
theorem va_comm (x y : Int) : va x y = va y x := by
  rw [va_eq, va_eq]
  omega
theorem pw_no (v : Nat → Int) (p : Nat) (b : Nat → Int) (t : Nat) : ∀ m, (∀ j, j < m → t ≠ p + j / 4) → pw v p b m t = v t
  | 0, _ => rfl
  | m + 1, h => by
    unfold pw
    rw [up_ne _ _ _ (h m (by omega)), pw_no v p b t m (fun j hj => h j (by omega))]
theorem pw_done (v : Nat → Int) (p : Nat) (b : Nat → Int) (q : Nat) : ∀ d, pw v p b (4 * q + 4 + d) (p + q) = pw v p b (4 * q + 4) (p + q)
  | 0 => rfl
  | d + 1 => by
    show upd (pw v p b (4 * q + 4 + d)) (p + (4 * q + 4 + d) / 4) _ (p + q) = _
    rw [up_ne _ _ _ (by omega), pw_done v p b q d]
/-- The number of four bytes. -/
def n4 (b0 b1 b2 b3 : Int) : Int := b0 + 256 * b1 + 65536 * b2 + 16777216 * b3
theorem pw_four (v : Nat → Int) (p : Nat) (b : Nat → Int) (hb : ∀ i, 0 ≤ b i ∧ b i < 256) (q : Nat) (h0 : v (p + q) = 0) : pw v p b (4 * q + 4) (p + q) = n4 (b (4 * q)) (b (4 * q + 1)) (b (4 * q + 2)) (b (4 * q + 3)) := by
  have c0 := hb (4 * q)
  have c1 := hb (4 * q + 1)
  have c2 := hb (4 * q + 2)
  have c3 := hb (4 * q + 3)
  have s0 : pw v p b (4 * q) (p + q) = 0 := by rw [pw_no v p b _ _ (fun j hj => by omega), h0]
  have s1 : pw v p b (4 * q + 1) (p + q) = b (4 * q) := by
    unfold pw
    rw [show p + 4 * q / 4 = p + q by omega, up_at, s0, show 4 * q % 4 * 8 = 0 by omega, vo_vl0 _ _ (by omega) (by omega) c0.1 c0.2]
    omega
  have s2 : pw v p b (4 * q + 2) (p + q) = b (4 * q) + 256 * b (4 * q + 1) := by
    show upd (pw v p b (4 * q + 1)) (p + (4 * q + 1) / 4) (vo (pw v p b (4 * q + 1) (p + (4 * q + 1) / 4)) (vl (cv .u32 (b (4 * q + 1))) ((4 * q + 1) % 4 * 8))) (p + q) = _
    rw [show p + (4 * q + 1) / 4 = p + q by omega, up_at, s1, show (4 * q + 1) % 4 * 8 = 8 by omega, vo_vl1 _ _ (by omega) (by omega) c1.1 c1.2]
  have s3 : pw v p b (4 * q + 3) (p + q) = b (4 * q) + 256 * b (4 * q + 1) + 65536 * b (4 * q + 2) := by
    show upd (pw v p b (4 * q + 2)) (p + (4 * q + 2) / 4) (vo (pw v p b (4 * q + 2) (p + (4 * q + 2) / 4)) (vl (cv .u32 (b (4 * q + 2))) ((4 * q + 2) % 4 * 8))) (p + q) = _
    rw [show p + (4 * q + 2) / 4 = p + q by omega, up_at, s2, show (4 * q + 2) % 4 * 8 = 16 by omega, vo_vl2 _ _ (by omega) (by omega) c2.1 c2.2]
  show upd (pw v p b (4 * q + 3)) (p + (4 * q + 3) / 4) (vo (pw v p b (4 * q + 3) (p + (4 * q + 3) / 4)) (vl (cv .u32 (b (4 * q + 3))) ((4 * q + 3) % 4 * 8))) (p + q) = _
  rw [show p + (4 * q + 3) / 4 = p + q by omega, up_at, s3, show (4 * q + 3) % 4 * 8 = 24 by omega, vo_vl3 _ _ (by omega) (by omega) c3.1 c3.2]
  rfl
theorem pw_word (v : Nat → Int) (p : Nat) (b : Nat → Int) (hb : ∀ i, 0 ≤ b i ∧ b i < 256) (m q : Nat) (hq : 4 * q + 4 ≤ m) (h0 : v (p + q) = 0) : pw v p b m (p + q) = n4 (b (4 * q)) (b (4 * q + 1)) (b (4 * q + 2)) (b (4 * q + 3)) := by
  obtain ⟨d, rfl⟩ : ∃ d, m = 4 * q + 4 + d := ⟨m - (4 * q + 4), by omega⟩
  rw [pw_done, pw_four v p b hb q h0]
theorem wd4_n4 (s : ByteArray) : wd4 s = n4 (bt s 0) (bt s 1) (bt s 2) (bt s 3) := by
  have c0 := bt_nn s 0
  have c1 := bt_nn s 1
  have c2 := bt_nn s 2
  have c3 := bt_nn s 3
  unfold wd4
  rw [cv32 (bt s 0) c0.1 c0.2, vo_vl1 _ _ c0.1 c0.2 c1.1 c1.2, vo_vl2 _ _ (by omega) (by omega) c2.1 c2.2, vo_vl3 _ _ (by omega) (by omega) c3.1 c3.2]
  rfl
theorem bt_sub (s : ByteArray) (p q j : Nat) (hj : j < q - p) (hq : q ≤ s.size) : bt (s.extract p q) j = bt s (p + j) := by
  unfold bt
  rw [ByteArray.data_extract, Array.getElem?_extract, if_pos (by show j < min q s.data.size - p; have : s.size = s.data.size := rfl; omega)]
theorem dx_at (al : ByteArray) : ∀ n, ∀ i, i < n → dx al n i = wd4 (al.extract (4 * i) (4 * i + 4))
  | 0, i, h => absurd h (by omega)
  | n + 1, i, h => by
    unfold dx upd
    by_cases e : i = n
    · rw [if_pos e, e]
    · rw [if_neg e, dx_at al n i (by omega)]
theorem dx_out (al : ByteArray) : ∀ n, ∀ i, n ≤ i → dx al n i = 0
  | 0, _, _ => rfl
  | n + 1, i, h => by
    unfold dx
    rw [up_ne _ _ _ (by omega), dx_out al n i (by omega)]
theorem dx_n4 (al : ByteArray) (ha : al.size = 64) (i : Nat) (hi : i < 16) : dx al 16 i = n4 (bt al (4 * i)) (bt al (4 * i + 1)) (bt al (4 * i + 2)) (bt al (4 * i + 3)) := by
  rw [dx_at al 16 i hi, wd4_n4, bt_sub _ _ _ _ (by omega) (by omega), bt_sub _ _ _ _ (by omega) (by omega), bt_sub _ _ _ _ (by omega) (by omega), bt_sub _ _ _ _ (by omega) (by omega), Nat.add_zero]
theorem bt_left (a b : ByteArray) (i : Nat) (h : i < a.size) : bt (a ++ b) i = bt a i := by
  unfold bt
  rw [ByteArray.data_append, Array.getElem?_append_left h]
theorem bt_right (a b : ByteArray) (i : Nat) (h : a.size ≤ i) : bt (a ++ b) i = bt b (i - a.size) := by
  unfold bt
  rw [ByteArray.data_append, Array.getElem?_append_right h]
  rfl
theorem bt_bs (l : List Int) (h : ∀ x ∈ l, 0 ≤ x ∧ x < 256) (i : Nat) : bt (bs l) i = l.getD i 0 := by rw [bt_of_sb, sb_bs l h]
theorem nb_n4 (n : Int) (h0 : 0 ≤ n) (h1 : n < 4294967296) : n4 (nb n 0) (nb n 1) (nb n 2) (nb n 3) = n := by
  obtain ⟨m, rfl⟩ : ∃ m : Nat, n = (m : Int) := ⟨n.toNat, by omega⟩
  have hc : ∀ k : Nat, cv .u8 (k : Int) = ((k % 256 : Nat) : Int) := fun k => by
    unfold cv
    simp [IntKind.wrap, IntKind.signed, IntKind.bits]
  have hs : ∀ k : Nat, sr (m : Int) k = ((m / 2 ^ k : Nat) : Int) := fun k => by
    unfold sr
    rw [Int.fdiv_eq_ediv_of_nonneg _ (by exact Int.le_of_lt (Int.pow_pos (by decide)))]
    simp
  show n4 (cv .u8 (m : Int)) (cv .u8 (sr (m : Int) 8)) (cv .u8 (sr (m : Int) 16)) (cv .u8 (sr (m : Int) 24)) = _
  rw [hs, hs, hs, hc, hc, hc, hc]
  unfold n4
  omega
/-- The first words of a block, but for its number. -/
def fw0 (key nonce : ByteArray) : Nat → Int := pw (f2 key) 13 (bt nonce) nonce.size
theorem pw_upd (v : Nat → Int) (x : Int) (b : Nat → Int) : ∀ m, pw (upd v 12 x) 13 b m = upd (pw v 13 b m) 12 x
  | 0 => rfl
  | m + 1 => by
    unfold pw
    rw [pw_upd v x b m, up_ne _ _ _ (by omega : 13 + m / 4 ≠ 12), up_comm _ (by omega)]
theorem fw_eq (key nonce : ByteArray) (n : Int) : fw key nonce n = upd (fw0 key nonce) 12 n := pw_upd _ _ _ _
theorem f1_at (q : Nat) (hq : q < 4) : f1 q = n4 (bt strK (4 * q)) (bt strK (4 * q + 1)) (bt strK (4 * q + 2)) (bt strK (4 * q + 3)) := by
  have h := pw_word (fun _ => 0) 0 (bt strK) (bt_nn strK) 16 q (by omega) rfl
  rw [Nat.zero_add] at h
  exact h
theorem f1_out (t : Nat) (ht : 4 ≤ t) : f1 t = 0 := pw_no (fun _ => 0) 0 (bt strK) t 16 (fun j hj => by omega)
theorem al_1 (key nonce : ByteArray) (n : Int) (hk : key.size = 32) (i : Nat) (h : i < 16) : bt (alS key nonce n) i = bt strK i := by
  have e1 : (strK ++ key).size = 48 := by rw [ByteArray.size_append, strK_size, hk]
  have e2 : (strK ++ key ++ nB n).size = 52 := by rw [ByteArray.size_append, e1, nB_size]
  unfold alS
  rw [bt_left _ _ _ (by omega), bt_left _ _ _ (by omega), bt_left _ _ _ (by rw [strK_size]; omega)]
theorem al_2 (key nonce : ByteArray) (n : Int) (hk : key.size = 32) (i : Nat) (h : 16 ≤ i) (h' : i < 48) : bt (alS key nonce n) i = bt key (i - 16) := by
  have e1 : (strK ++ key).size = 48 := by rw [ByteArray.size_append, strK_size, hk]
  have e2 : (strK ++ key ++ nB n).size = 52 := by rw [ByteArray.size_append, e1, nB_size]
  unfold alS
  rw [bt_left _ _ _ (by omega), bt_left _ _ _ (by omega), bt_right _ _ _ (by rw [strK_size]; omega), strK_size]
theorem al_3 (key nonce : ByteArray) (n : Int) (hk : key.size = 32) (i : Nat) (h : 48 ≤ i) (h' : i < 52) : bt (alS key nonce n) i = ((List.range 4).map (nb n)).getD (i - 48) 0 := by
  have e1 : (strK ++ key).size = 48 := by rw [ByteArray.size_append, strK_size, hk]
  have e2 : (strK ++ key ++ nB n).size = 52 := by rw [ByteArray.size_append, e1, nB_size]
  unfold alS
  rw [bt_left _ _ _ (by omega), bt_right _ _ _ (by omega), e1]
  unfold nB
  rw [bt_bs _ (nb_nn n)]
theorem al_4 (key nonce : ByteArray) (n : Int) (hk : key.size = 32) (i : Nat) (h : 52 ≤ i) : bt (alS key nonce n) i = bt nonce (i - 52) := by
  have e1 : (strK ++ key).size = 48 := by rw [ByteArray.size_append, strK_size, hk]
  have e2 : (strK ++ key ++ nB n).size = 52 := by rw [ByteArray.size_append, e1, nB_size]
  unfold alS
  rw [bt_right _ _ _ (by omega), e2]
theorem n4_congr {a b c d a' b' c' d' : Int} (h1 : a = a') (h2 : b = b') (h3 : c = c') (h4 : d = d') : n4 a b c d = n4 a' b' c' d' := by rw [h1, h2, h3, h4]
/-- The program's first words are the document's. -/
theorem fw_dx (key nonce : ByteArray) (n : Int) (hk : key.size = 32) (hn : nonce.size = 12) (h0 : 0 ≤ n) (h1 : n < 4294967296) : fw key nonce n = dx (alS key nonce n) 16 := by
  funext t
  rw [fw_eq]
  by_cases h16 : t < 16
  · rw [dx_n4 _ (alS_size key nonce n hk hn) t h16]
    by_cases c13 : 13 ≤ t
    · obtain ⟨q, rfl⟩ : ∃ q, t = 13 + q := ⟨t - 13, by omega⟩
      rw [up_ne _ _ _ (by omega)]
      unfold fw0
      rw [pw_word (f2 key) 13 (bt nonce) (bt_nn nonce) nonce.size q (by omega) (by unfold f2; rw [pw_no _ _ _ _ _ (fun j hj => by omega), f1_out _ (by omega)])]
      rw [al_4 key nonce n hk (4 * (13 + q)) (by omega), al_4 key nonce n hk (4 * (13 + q) + 1) (by omega), al_4 key nonce n hk (4 * (13 + q) + 2) (by omega), al_4 key nonce n hk (4 * (13 + q) + 3) (by omega)]
      refine n4_congr ?_ ?_ ?_ ?_ <;> congr 1 <;> omega
    · by_cases c12 : t = 12
      · subst c12
        rw [up_at]
        rw [al_3 key nonce n hk (4 * 12) (by omega) (by omega), al_3 key nonce n hk (4 * 12 + 1) (by omega) (by omega), al_3 key nonce n hk (4 * 12 + 2) (by omega) (by omega), al_3 key nonce n hk (4 * 12 + 3) (by omega) (by omega)]
        exact (nb_n4 n h0 h1).symm
      · rw [up_ne _ _ _ c12]
        unfold fw0
        rw [pw_no _ _ _ _ _ (fun j hj => by omega)]
        by_cases c4 : 4 ≤ t
        · obtain ⟨q, rfl⟩ : ∃ q, t = 4 + q := ⟨t - 4, by omega⟩
          unfold f2
          rw [pw_word f1 4 (bt key) (bt_nn key) key.size q (by omega) (f1_out _ (by omega))]
          rw [al_2 key nonce n hk (4 * (4 + q)) (by omega) (by omega), al_2 key nonce n hk (4 * (4 + q) + 1) (by omega) (by omega), al_2 key nonce n hk (4 * (4 + q) + 2) (by omega) (by omega), al_2 key nonce n hk (4 * (4 + q) + 3) (by omega) (by omega)]
          refine n4_congr ?_ ?_ ?_ ?_ <;> congr 1 <;> omega
        · unfold f2
          rw [pw_no _ _ _ _ _ (fun j hj => by omega), f1_at t (by omega)]
          rw [al_1 key nonce n hk (4 * t) (by omega), al_1 key nonce n hk (4 * t + 1) (by omega), al_1 key nonce n hk (4 * t + 2) (by omega), al_1 key nonce n hk (4 * t + 3) (by omega)]
  · rw [dx_out _ _ _ (by omega), up_ne _ _ _ (by omega)]
    unfold fw0
    rw [pw_no _ _ _ _ _ (fun j hj => by omega)]
    unfold f2
    rw [pw_no _ _ _ _ _ (fun j hj => by omega), f1_out _ (by omega)]
theorem bl_dbl (f : Nat → Int) (i : Nat) : bl f i = dbl f i := by
  unfold bl dbl
  rw [va_comm, Nat.mul_comm]
theorem blk_dbk (key nonce : ByteArray) (n : Int) (hk : key.size = 32) (hn : nonce.size = 12) (h0 : 0 ≤ n) (h1 : n < 4294967296) : blk (fw key nonce n) = dbk key nonce n := by
  unfold blk dbk
  rw [fw_dx key nonce n hk hn h0 h1]
  refine congrArg bs ?_
  exact List.map_congr_left fun i _ => bl_dbl _ i
theorem va_nn (x y : Int) : 0 ≤ va x y ∧ va x y < 4294967296 := by
  rw [va_eq]
  omega
/-- The words of the stream's blocks are first words, with other numbers. -/
theorem sw_fw (key nonce : ByteArray) (n : Int) (h0 : 0 ≤ n) (h1 : n < 4294967296) : ∀ j : Nat, sw (fw key nonce n) j = fw key nonce (va n (j : Int))
  | 0 => by
    show fw key nonce n = _
    congr 1
    rw [va_eq]
    omega
  | j + 1 => by
    unfold sw
    rw [sw_fw key nonce n h0 h1 j, fw_eq, fw_eq, up_at, up_up]
    congr 1
    rw [va_eq, va_eq, va_eq]
    omega
theorem ot_map (f : Nat → Int) (s : ByteArray) : ∀ n, ot f s n = (List.range n).map fun i => UInt8.ofNat (ob f s i).toNat
  | 0 => rfl
  | n + 1 => by
    unfold ot
    rw [ot_map f s n, List.range_succ, List.map_append]
    rfl
theorem oS_bs (f : Nat → Int) (s : ByteArray) : oS f s = bs ((List.range s.size).map (ob f s)) := by
  unfold oS bs
  rw [ot_map, List.map_map]
  rfl
theorem oS_size (f : Nat → Int) (s : ByteArray) : (oS f s).size = s.size := by
  rw [oS_bs, bs_size]
  simp
/-- The program's turned text is the document's. -/
theorem oS_dT (key nonce : ByteArray) (n : Int) (s : ByteArray) (hk : key.size = 32) (hn : nonce.size = 12) (h0 : 0 ≤ n) (h1 : n < 4294967296) : oS (fw key nonce n) s = dT key nonce n s := by
  rw [oS_bs]
  unfold dT
  refine congrArg bs ?_
  refine List.map_congr_left fun i _ => ?_
  unfold ob dob
  refine congrArg (xb (bt s i)) ?_
  have hv := va_nn n ((i / 64 : Nat) : Int)
  rw [sw_fw key nonce n h0 h1, ← blk_dbk key nonce _ hk hn hv.1 hv.2]
  unfold blk
  rw [bt_bs _ (blk_nn _)]
  have hi : i % 64 < 64 := by omega
  rw [List.getD_eq_getElem?_getD, List.getElem?_map, List.getElem?_range hi]
  rfl

end Go.Proofs.YtenafinbaanicaaGreatDoor
namespace Go.Proofs.YtenafinbaanicaaGreatDoor
open Go.RowKit
set_option maxRecDepth 100000

open Go.Shelf
/-- A builder's cells. -/
def bF (p v : Value) : Nat → Value := fun i => if i = 0 then p else v
theorem put_bF (p v v' : Value) (j : Nat) (hj : j < 2) : (if j = 1 then v' else bF p v j) = bF p v' j := by
  unfold bF
  by_cases h : j = 1
  · subst h
    rfl
  · rw [if_neg h]
    have : j = 0 := by omega
    subst this
    rfl
theorem av_bF (p v : Value) : av 2 (bF p v) = #[p, v] := rfl
def selfp (k : Nat) : Value := .pointer (some ⟨k, 0, none⟩)
/-- A builder: its block, where its bytes lie, the bytes. -/
structure BA (u : World) (k : Nat) (ao : Option Addr) (cap : Nat) (l : List UInt8) : Prop where
  at_ : u.heap[k]? = some (.cells (av 2 (bF (.pointer none) (.slice ao l.length cap))) 165) ∨ u.heap[k]? = some (.cells (av 2 (bF (selfp k) (.slice ao l.length cap))) 165)
  own : u.ownsRowF 0 5 1 (.slice ao l.length cap) l.length (Lib.byteCells l)
def rowOf (ao : Option Addr) : List Nat := (ao.map (·.block)).toList
theorem own_row (ao : Option Addr) (n cap g : Nat) : (Value.slice ao n cap).ownBlock = some g ↔ g ∈ rowOf ao := by
  cases ao with
  | none => simp [Value.ownBlock, rowOf]
  | some a => simp [Value.ownBlock, rowOf, eq_comm]
/-- What a row of bytes is hangs on its block alone. -/
theorem ownF_keep {u u' : World} {ao : Option Addr} {n cap : Nat} {xs : List Value} (h : u.ownsRowF 0 5 1 (.slice ao n cap) n xs) (hk : ∀ g ∈ rowOf ao, u'.heap[g]? = u.heap[g]?) : u'.ownsRowF 0 5 1 (.slice ao n cap) n xs := by
  refine ⟨h.1, ?_⟩
  rcases h.2 with h | ⟨g, c, cur, fz, hv, h2, h3, h4⟩
  · exact .inl h
  · refine .inr ⟨g, c, cur, fz, hv, h2, ?_, h4⟩
    rw [hk g ((own_row ao n cap g).1 (by rw [hv]; rfl))]
    exact h3
theorem BA.keep {u u' : World} {k cap : Nat} {ao : Option Addr} {l : List UInt8} (h : BA u k ao cap l) (h0 : u'.heap[k]? = u.heap[k]?) (hk : ∀ g ∈ rowOf ao, u'.heap[g]? = u.heap[g]?) : BA u' k ao cap l :=
  ⟨by rw [h0]; exact h.at_, ownF_keep h.own hk⟩
theorem BA.lt {u : World} {k cap : Nat} {ao : Option Addr} {l : List UInt8} (h : BA u k ao cap l) : k < u.heap.size := h.at_.elim (fun h => (Array.getElem?_eq_some_iff.1 h).1) (fun h => (Array.getElem?_eq_some_iff.1 h).1)
theorem BA.row_lt {u : World} {k cap : Nat} {ao : Option Addr} {l : List UInt8} (h : BA u k ao cap l) : ∀ g ∈ rowOf ao, g < u.heap.size := fun g hg => (h.own.lt g ((own_row ao _ cap g).2 hg)).2
theorem BA.ne {u : World} {k cap : Nat} {ao : Option Addr} {l : List UInt8} (h : BA u k ao cap l) : k ∉ rowOf ao := fun hk => by
  have h1 := (own_row ao l.length cap k).2 hk
  rcases h.at_ with h2 | h2 <;> exact Lib.ownBlock_neF h.own h2 (by decide) h1

/-- Bytes of a text are added behind: in the same row, or in a new one. -/
theorem app_str {w : World} {ao : Option Addr} {n cap : Nat} {xs : List Value} (h : w.ownsRowF 0 5 1 (.slice ao n cap) n xs) (s : ByteArray) (hb : n + s.size ≤ 1000000) (ty : TypeId) :
    ∃ ao' cap' w', (Builtin.append_ #[97, 9] ty #[.slice ao n cap, .string s]).run Tryz.prog w = .ok (.slice ao' (n + s.size) cap') w' ∧ w'.ownsRowF 0 5 1 (.slice ao' (n + s.size) cap') (n + s.size) (xs ++ Lib.strCells s) ∧ Grw w w' (rowOf ao) ∧ (rowOf ao' = rowOf ao ∨ ∃ g, rowOf ao' = [g] ∧ w.heap.size ≤ g) := by
  obtain ⟨i0, hi, hz0, hz1, hz2⟩ := info_parts repExtra.infoByte
  have hm : n + s.size ≤ maxLen := by unfold maxLen; omega
  obtain ⟨v', w', hr, h2, h3, h4⟩ := Lib.run_append_own_stringF (P := Tryz.prog) w 0 97 9 ty 5 i0 Tryz.underlying97 Tryz.underlying9 hi hz0 hz1 hz2 _ n xs h s hm (by omega) (Nat.zero_le _)
  obtain ⟨ao', cap', rfl⟩ : ∃ ao' cap', v' = .slice ao' (n + s.size) cap' := by
    rcases h2.2 with ⟨hv, hn⟩ | ⟨g, c, cur, fz, hv, _⟩
    · exact ⟨none, 0, by rw [hv, hn]⟩
    · exact ⟨_, _, hv⟩
  refine ⟨ao', cap', w', hr, h2, ⟨h3.os, h3.tape, h3.output, h3.size, fun k hk hkr => h3.block k hk fun e => hkr ((own_row ao n cap k).1 e.symm)⟩, ?_⟩
  rcases h.2 with ⟨hv, hn⟩ | ⟨g, c, cur, fz, hv, _, hg, hfz, hnc, hcm, hcs, htake⟩
  · obtain ⟨v2, w2, hr2, h5, _⟩ := Lib.run_append_own_stringF (P := Tryz.prog) w w.heap.size 97 9 ty 5 i0 Tryz.underlying97 Tryz.underlying9 hi hz0 hz1 hz2 _ n xs ⟨h.1, .inl ⟨hv, hn⟩⟩ s hm (by omega) (Nat.le_refl _)
    rw [hr] at hr2
    cases hr2
    cases hao : ao' with
    | none =>
      left
      cases hv
      rfl
    | some x =>
      right
      refine ⟨x.block, rfl, ?_⟩
      rw [hao] at h5
      exact (h5.lt x.block rfl).1
  · cases hv
    have hxl : xs.length = n := by simpa using h.1
    have hcs' : cur.size = cap := by simpa using hcs
    by_cases hroom : n + s.size ≤ cap
    · have hr2 := Lib.run_append_room_stringF (P := Tryz.prog) w 97 9 ty 5 i0 Tryz.underlying97 Tryz.underlying9 hi hz1 g n cap cur fz hg (by simpa using hfz) s hroom (by omega)
      rw [hr] at hr2
      cases hr2
      exact .inl rfl
    · have hr2 := Lib.run_append_grow_string (P := Tryz.prog) w 97 9 ty 5 i0 (.int .u8 0) Tryz.underlying97 Tryz.underlying9 hi hz0 ⟨g, 0, none⟩ n cap xs (by rw [hz1]; simpa using hxl) (h.cells (g := g) rfl) s (by omega) (by omega) (by rw [hz2]; exact growslice_fits (by omega) (by omega))
      rw [hr] at hr2
      cases hr2
      exact .inr ⟨_, rfl, Nat.le_refl _⟩
/-- One byte is added behind. -/
theorem app_byte {w : World} {ao : Option Addr} {n cap : Nat} {xs : List Value} (h : w.ownsRowF 0 5 1 (.slice ao n cap) n xs) (gx : Nat) (c : Int) (hc : w.cell? ⟨gx, 0, none⟩ = some (.int .u8 c)) (hb : n + 1 ≤ 1000000) (ty : TypeId) :
    ∃ ao' cap' w', (Builtin.append_ #[97, 97] ty #[.slice ao n cap, .slice (some ⟨gx, 0, none⟩) 1 1]).run Tryz.prog w = .ok (.slice ao' (n + 1) cap') w' ∧ w'.ownsRowF 0 5 1 (.slice ao' (n + 1) cap') (n + 1) (xs ++ [.int .u8 c]) ∧ Grw w w' (rowOf ao) ∧ (rowOf ao' = rowOf ao ∨ ∃ g, rowOf ao' = [g] ∧ w.heap.size ≤ g) := by
  obtain ⟨i0, hi, hz0, hz1, hz2⟩ := info_parts repExtra.infoByte
  have hm : n + 1 ≤ maxLen := by unfold maxLen; omega
  have hnews : ∀ j u, [Value.int .u8 c][j]? = some u → w.cell? ((⟨gx, 0, none⟩ : Addr).add j) = some u := fun j u hj => by
    match j, hj with
    | 0, hj => simp at hj; subst hj; simpa [Addr.add] using hc
  have h1 : ∀ u ∈ [Value.int .u8 c], u.oneCell' = true := fun u hu => by simp at hu; subst hu; rfl
  obtain ⟨v', w', hr, h2, h3, h4⟩ := run_append_ownF (P := Tryz.prog) w 0 97 ty 5 i0 (.int .u8 0) 1 1 Tryz.underlying97 hi hz0 hz1 hz2 rfl (by decide) _ n xs h ⟨gx, 0, none⟩ 1 1 [.int .u8 c] rfl hnews h1 hm (by omega) (Nat.zero_le _)
  obtain ⟨ao', cap', rfl⟩ : ∃ ao' cap', v' = .slice ao' (n + 1) cap' := by
    rcases h2.2 with ⟨hv, hn⟩ | ⟨g, c, cur, fz, hv, _⟩
    · omega
    · exact ⟨_, _, hv⟩
  refine ⟨ao', cap', w', hr, h2, ⟨h3.os, h3.tape, h3.output, h3.size, fun k hk hkr => h3.block k hk fun e => hkr ((own_row ao n cap k).1 e.symm)⟩, ?_⟩
  rcases h.2 with ⟨hv, hn⟩ | ⟨g, c2, cur, fz, hv, _, hg, hfz, hnc, hcm, hcs, htake⟩
  · obtain ⟨v2, w2, hr2, h5, _⟩ := run_append_ownF (P := Tryz.prog) w w.heap.size 97 ty 5 i0 (.int .u8 0) 1 1 Tryz.underlying97 hi hz0 hz1 hz2 rfl (by decide) _ n xs ⟨h.1, .inl ⟨hv, hn⟩⟩ ⟨gx, 0, none⟩ 1 1 [.int .u8 c] rfl hnews h1 hm (by omega) (Nat.le_refl _)
    rw [hr] at hr2
    cases hr2
    cases hao : ao' with
    | none =>
      left
      cases hv
      rfl
    | some x =>
      right
      refine ⟨x.block, rfl, ?_⟩
      rw [hao] at h5
      exact (h5.lt x.block rfl).1
  · cases hv
    have hxl : xs.length = n := by simpa using h.1
    have hcs' : cur.size = cap := by simpa using hcs
    by_cases hroom : n + 1 ≤ cap
    · have hr2 := run_append_roomF (P := Tryz.prog) w 97 ty 5 i0 Tryz.underlying97 hi g n cap cur fz hg (by rw [hz1]; simpa using hfz) ⟨gx, 0, none⟩ 1 1 [.int .u8 c] (by rw [hz1]; rfl) hnews h1 hroom (by rw [hz1]; simp; omega)
      rw [hr] at hr2
      cases hr2
      exact .inl rfl
    · have hr2 := run_append_grow (P := Tryz.prog) w 97 ty 5 i0 (.int .u8 0) Tryz.underlying97 hi hz0 ⟨g, 0, none⟩ n cap xs (by rw [hz1]; simpa using hxl) (h.cells (g := g) rfl) ⟨gx, 0, none⟩ 1 1 [.int .u8 c] (by rw [hz1]; rfl) hnews (by omega) (by omega) (by rw [hz2]; exact growslice_fits (by omega) (by omega))
      rw [hr] at hr2
      cases hr2
      exact .inr ⟨_, rfl, Nat.le_refl _⟩

theorem c_chk {u : World} {k cap : Nat} {ao : Option Addr} {l : List UInt8} (h : BA u k ao cap l) : Calls Tryz.prog 120 #[.pointer (some ⟨k, 0, none⟩)] u fun r u' => r = .returned (.tuple #[]) ∧ u'.heap[k]? = some (.cells (av 2 (bF (selfp k) (.slice ao l.length cap))) 165) ∧ Grw u u' [k] := by
  rcases h.at_ with h1 | h1
  · refine (Any.Builder_copyCheck_fresh (P := Tryz.prog) (ρ := repRen) { lays167 with } repExtra.toX72 k u (cell_av h1 (by decide)) (by simp [World.shape?, h1, av_size, repRen]) (free_av h1 0)).mono ?_
    rintro r u' ⟨rfl, rfl⟩
    refine ⟨rfl, ?_, grown_setCell _ _ _ _⟩
    have h2 := h1
    rw [av_bF] at h2
    rw [av_bF]
    simp [World.setCell, Array.getElem?_modify, h2, selfp]
  · refine (Any.Builder_copyCheck_used (P := Tryz.prog) (ρ := repRen) { lays167 with } repExtra.toX72 k u (cell_av h1 (by decide))).mono ?_
    rintro r u' ⟨rfl, rfl⟩
    exact ⟨rfl, h1, grown_refl _ _⟩


end Go.Proofs.YtenafinbaanicaaGreatDoor
namespace Go.Proofs.YtenafinbaanicaaGreatDoor
open Go.RowKit
set_option maxRecDepth 100000

open Go.Shelf
/-- A row that the blocks listed do not speak of has grown. -/
theorem Mem.grow {c : Ctx} {W W' : World} {L : List Blk} (M : Mem c L W) {r : List Nat} (hg : Grw W W' r) (hr : ∀ g ∈ r, g ∈ c.r ∧ g ∉ L.map Blk.g) : Mem c L W' where
  old := ⟨hg.os.trans M.old.os, hg.tape.trans M.old.tape, hg.output.trans M.old.output, Nat.le_trans M.old.size hg.size, fun k hk hk2 => (hg.block k (Nat.lt_of_lt_of_le hk M.old.size) fun h => hk2 (hr k h).1).trans (M.old.block k hk hk2)⟩
  at_ := fun b hb => by
    rw [hg.block _ (M.lt hb) fun h => (hr _ h).2 (List.mem_map_of_mem hb)]
    exact M.at_ b hb
  ge := M.ge
  nodup := M.nodup
  lay := M.lay
  ne := M.ne
theorem Mem.fgt {c : Ctx} {W : World} {L : List Blk} (M : Mem c L W) {r : List Nat} (h : ∀ x ∈ c.r, x ∈ r) (h1 : ∀ x ∈ r, 1 < x) : Mem ⟨c.w, r⟩ L W := ⟨⟨M.old.os, M.old.tape, M.old.output, M.old.size, fun k hk hr => M.old.block k hk fun hx => hr (h k hx)⟩, M.at_, fun b hb => (M.ge b hb).imp id (h _), M.nodup, M.lay, h1⟩
theorem bytes_of (s : ByteArray) : Lib.strCells s = Lib.byteCells s.data.toList := rfl

theorem pl_putk {ops : Array Oper} {rest : List Oper} {o : Oper} {a : Act} {w : World} {c : Ctx} {Q : Exit → Act → World → Prop} {k : Nat} {p v v' : Value} (M : Mem c [⟨k, .cells (av 2 (bF p v)) 165⟩] w) (hw : Region.wanted o (yielded ops a.tmps) = true) (hd : o.dst = none) (x y : Operand) (ho : o.op = .store 97 x y) (hx : a.eval x = .pointer (some ⟨k, 1, none⟩)) (hy : a.eval y = v') (h1 : v'.oneCell' = true) (hc : v'.cells = #[v'])
    (h : ∀ w', Mem c [⟨k, .cells (av 2 (bF p v')) 165⟩] w' → (∀ g, g < w.heap.size → g ≠ k → w'.heap[g]? = w.heap[g]?) → PL Tryz.prog ops Q rest a w') : PL Tryz.prog ops Q (o :: rest) a w := by
  have hk : k < w.heap.size := (Array.getElem?_eq_some_iff.1 (M.get 0 rfl)).1
  have M2 : Mem ⟨w, [k]⟩ [⟨k, .cells (av 2 (bF p v)) 165⟩] w := ⟨grown_refl _ _, by simpa using M.get 0 rfl, by simp, by simp, M.laid, by simpa using M.ne0 0 rfl⟩
  refine pl_put1 M2 hw hd 97 x y ho 0 k 1 hx 2 165 _ rfl v' _ hy inz97 (by decide) h1 hc (fun j hj => put_bF _ _ _ j hj) ?_
  intro w' M3
  refine h w' ?_ ?_
  · exact M.put 0 _ rfl _ ⟨M3.old.os, M3.old.tape, M3.old.output, M3.old.size, fun j hj hr => M3.old.block j hj hr⟩ (M3.get 0 rfl)
  · intro g hlt hg
    exact M3.old.block g hlt (by simpa using hg)

set_option maxRecDepth 100000 in
set_option maxHeartbeats 4000000 in
theorem c_wstr {k cap : Nat} {ao : Option Addr} {l : List UInt8} (s : ByteArray) (w : World) (hL : Laid w) (h : BA w k ao cap l) (hne : ∀ x ∈ k :: rowOf ao, 1 < x) (hb : l.length + s.size ≤ 1000000) :
    Calls Tryz.prog 118 #[.pointer (some ⟨k, 0, none⟩), .string s] w fun r w' => r = .returned (.tuple #[.int .i64 (s.size : Int), .nilIface]) ∧ ∃ ao' cap', BA w' k ao' cap' (l ++ s.data.toList) ∧ Grw w w' (k :: rowOf ao) ∧ (rowOf ao' = rowOf ao ∨ ∃ g, rowOf ao' = [g] ∧ w.heap.size ≤ g) := by
  go_enter Tryz.func118, Tryz.ntmps118
  refine sq ?_
  refine sR ?_
  refine rV 1 ?_
  refine pl_callq (want_no rfl) (some 7) rfl 120 #[.pointer (some ⟨k, 0, none⟩)] (fun _ => by kernel_rfl) ((c_chk h).mono ?_)
  rintro _ u1 ⟨rfl, hk1, hg1⟩
  refine ⟨_, rfl, ?_⟩
  have M : Mem ⟨w, k :: rowOf ao⟩ [⟨k, .cells (av 2 (bF (selfp k) (.slice ao l.length cap))) 165⟩] u1 := ⟨⟨hg1.os, hg1.tape, hg1.output, hg1.size, fun j hj hr => hg1.block j hj (fun e => hr (by rw [List.mem_singleton.1 e]; exact List.mem_cons_self ..))⟩, by simpa using hk1, by simp, by simp, hL, hne⟩
  have hown : u1.ownsRowF 0 5 1 (.slice ao l.length cap) l.length (Lib.byteCells l) := ownF_keep h.own fun g hg => hg1.block g (h.row_lt g hg) fun e => h.ne (by rw [← List.mem_singleton.1 e]; exact hg)
  refine nT ?_
  refine sR ?_
  refine rV 4 ?_
  refine ZE M 12 0 1 ?_
  refine rV 1 ?_
  obtain ⟨ao2, cap2, u2, hr2, hown2, hg2, hao⟩ := app_str hown s hb 97
  refine pl_to (want_no rfl) (some 14) rfl (.slice ao2 (l.length + s.size) cap2) u2 (show _ = _ from Eq.trans (b := (do pure (Next.value (← Builtin.append_ #[97, 9] 97 #[.slice ao l.length cap, .string s]))).run Tryz.prog u1) (by kernel_rfl) (by simp only [Sem.run_bind, hr2, Result.andThen_ok, Sem.run_pure])) ?_
  have hfr : rowOf ao2 = rowOf ao ∨ ∃ g, rowOf ao2 = [g] ∧ w.heap.size ≤ g := hao.imp id fun ⟨g, h1, h2⟩ => ⟨g, h1, Nat.le_trans M.old.size h2⟩
  have hrow2 : ∀ g ∈ rowOf ao2, g ≠ k := fun g hg e => by
    rcases hfr with h1 | ⟨x, h1, h2⟩
    · rw [h1] at hg; exact h.ne (e ▸ hg)
    · rw [h1] at hg; have h3 := h.lt; rw [List.mem_singleton.1 hg] at e; omega
  replace M := M.grow hg2 (fun g hg => ⟨List.mem_cons_of_mem _ hg, fun e => h.ne (by rw [← show g = k by simpa using e]; exact hg)⟩)
  refine rV 2 ?_
  refine pl_putk (v' := .slice ao2 (l.length + s.size) cap2) M (want_no rfl) rfl _ _ rfl (by kernel_rfl) (by kernel_rfl) rfl rfl ?_
  intro u3 M hst
  refine nT ?_
  refine sq ?_
  refine wp_ret ?_
  refine bodyPost_ret (v := .tuple #[.int .i64 (s.size : Int), Value.nilIface]) (results_tmp2 Tryz.results118 _ _ _ _ (by kernel_rfl) (by kernel_rfl)) (by kernel_rfl) ⟨rfl, ao2, cap2, ⟨.inr ?_, ?_⟩, M.old, hfr⟩
  · rw [show (l ++ s.data.toList).length = l.length + s.size from List.length_append]; exact M.get 0 rfl
  · rw [show (l ++ s.data.toList).length = l.length + s.size from List.length_append, Lib.byteCells_append]; exact ownF_keep hown2 fun g hg => hst g (hown2.lt g ((own_row _ _ _ g).2 hg)).2 (hrow2 g hg)

set_option maxRecDepth 100000 in
set_option maxHeartbeats 4000000 in
theorem c_wbyte {k cap : Nat} {ao : Option Addr} {l : List UInt8} (c : Int) (w : World) (hL : Laid w) (h : BA w k ao cap l) (hne : ∀ x ∈ k :: rowOf ao, 1 < x) (hb : l.length + 1 ≤ 1000000) (h0 : 0 ≤ c) (h1 : c < 256) :
    Calls Tryz.prog 106 #[.pointer (some ⟨k, 0, none⟩), .int .u8 c] w fun r w' => r = .returned (.nilIface) ∧ ∃ ao' cap', BA w' k ao' cap' (l ++ [UInt8.ofNat c.toNat]) ∧ Grw w w' (k :: rowOf ao) ∧ (rowOf ao' = rowOf ao ∨ ∃ g, rowOf ao' = [g] ∧ w.heap.size ≤ g) := by
  go_enter Tryz.func106, Tryz.ntmps106
  refine sq ?_
  refine sR ?_
  refine rV 1 ?_
  refine pl_callq (want_no rfl) (some 6) rfl 120 #[.pointer (some ⟨k, 0, none⟩)] (fun _ => by kernel_rfl) ((c_chk h).mono ?_)
  rintro _ u1 ⟨rfl, hk1, hg1⟩
  refine ⟨_, rfl, ?_⟩
  have M : Mem ⟨w, k :: rowOf ao⟩ [⟨k, .cells (av 2 (bF (selfp k) (.slice ao l.length cap))) 165⟩] u1 := ⟨⟨hg1.os, hg1.tape, hg1.output, hg1.size, fun j hj hr => hg1.block j hj (fun e => hr (by rw [List.mem_singleton.1 e]; exact List.mem_cons_self ..))⟩, by simpa using hk1, by simp, by simp, hL, hne⟩
  have hown : u1.ownsRowF 0 5 1 (.slice ao l.length cap) l.length (Lib.byteCells l) := ownF_keep h.own fun g hg => hg1.block g (h.row_lt g hg) fun e => h.ne (by rw [← List.mem_singleton.1 e]; exact hg)
  refine nT ?_
  refine sR ?_
  refine rV 4 ?_
  refine ZE M 11 0 1 ?_
  refine rV 1 ?_
  have hb2 : ∀ g ∈ rowOf ao, u1.heap[g]? = u1.heap[g]? := fun g hg => rfl
  refine pl_to (want_no rfl) (some 13) rfl (.slice (some ⟨u1.heap.size, 0, none⟩) 1 1) (u1.alloc (.cells (av 1 (fun _ => .int .u8 c)) 5)) (by kernel_rfl) ?_
  replace M := M.new u1.heap.size (.cells (av 1 (fun _ => .int .u8 c)) 5) (new_below u1 _) (heap_alloc_new u1 _) (Nat.le_refl _)
  replace hb2 : ∀ g ∈ rowOf ao, (u1.alloc (.cells (av 1 (fun _ => .int .u8 c)) 5)).heap[g]? = u1.heap[g]? := fun g hg => heap_alloc_old u1 _ (hown.lt g ((own_row _ _ _ g).2 hg)).2
  obtain ⟨ao2, cap2, u2, hr2, hown2, hg2, hao⟩ := app_byte (ownF_keep hown fun g hg => hb2 g hg) u1.heap.size c (cell_av (M.get 1 rfl) (by decide)) hb 97
  refine pl_to (want_no rfl) (some 14) rfl (.slice ao2 (l.length + 1) cap2) u2 (show _ = _ from Eq.trans (b := (do pure (Next.value (← Builtin.append_ #[97, 97] 97 #[.slice ao l.length cap, .slice (some ⟨u1.heap.size, 0, none⟩) 1 1]))).run Tryz.prog (u1.alloc (.cells (av 1 (fun _ => .int .u8 c)) 5))) (by kernel_rfl) (by simp only [Sem.run_bind, hr2, Result.andThen_ok, Sem.run_pure])) ?_
  have hfr : rowOf ao2 = rowOf ao ∨ ∃ g, rowOf ao2 = [g] ∧ w.heap.size ≤ g := hao.imp id fun ⟨g, h1, h2⟩ => ⟨g, h1, Nat.le_trans M.old.size h2⟩
  have hrow2 : ∀ g ∈ rowOf ao2, g ≠ k := fun g hg e => by
    rcases hfr with h1 | ⟨x, h1, h2⟩
    · rw [h1] at hg; exact h.ne (e ▸ hg)
    · rw [h1] at hg; have h3 := h.lt; rw [List.mem_singleton.1 hg] at e; omega
  replace M := M.drop (L' := [⟨k, .cells (av 2 (bF (selfp k) (.slice ao l.length cap))) 165⟩]) (.cons_cons _ (.cons _ .slnil))
  replace M := M.grow hg2 (fun g hg => ⟨List.mem_cons_of_mem _ hg, fun e => h.ne (by rw [← show g = k by simpa using e]; exact hg)⟩)
  refine rV 2 ?_
  refine pl_putk (v' := .slice ao2 (l.length + 1) cap2) M (want_no rfl) rfl _ _ rfl (by kernel_rfl) (by kernel_rfl) rfl rfl ?_
  intro u3 M hst
  refine nT ?_
  refine sq ?_
  refine wp_ret ?_
  refine bodyPost_ret (v := Value.nilIface) (results_tmp1 Tryz.results106 _ _ _ (by kernel_rfl)) (by kernel_rfl) ⟨rfl, ao2, cap2, ⟨.inr ?_, ?_⟩, M.old, hfr⟩
  · rw [show (l ++ [UInt8.ofNat c.toNat]).length = l.length + 1 from List.length_append]; exact M.get 0 rfl
  · rw [show (l ++ [UInt8.ofNat c.toNat]).length = l.length + 1 from List.length_append, cells_one l c h0 h1]; exact ownF_keep hown2 fun g hg => hst g (hown2.lt g ((own_row _ _ _ g).2 hg)).2 (hrow2 g hg)


end Go.Proofs.YtenafinbaanicaaGreatDoor
namespace Go.Proofs.YtenafinbaanicaaGreatDoor
open Go.RowKit
set_option maxRecDepth 100000

open Go.Shelf
theorem BA.cell1 {u : World} {k cap : Nat} {ao : Option Addr} {l : List UInt8} (h : BA u k ao cap l) : u.cell? ⟨k, 1, none⟩ = some (.slice ao l.length cap) := h.at_.elim (fun h => cell_av h (by decide)) (fun h => cell_av h (by decide))
theorem freeze_row {u : World} {g n : Nat} {cur : Array Value} {fz : Nat × Nat} (h : u.heap[g]? = some (.cells cur 5 fz)) (hf : fz.2 ≤ n) (hn : n ≠ 0) : ∃ fz', (u.freeze ⟨g, 0, none⟩ n).heap[g]? = some (.cells cur 5 fz') ∧ fz'.2 ≤ n ∧ Grw u (u.freeze ⟨g, 0, none⟩ n) [g] := by
  unfold World.freeze
  rw [if_neg hn]
  refine ⟨(if fz.1 == fz.2 then (0, 0 + n) else (min fz.1 0, max fz.2 (0 + n))), ?_, ?_, ⟨rfl, rfl, rfl, by simp, fun j _ hj => ?_⟩⟩
  · simp only [Array.getElem?_modify, h]
    simp
  · split
    · simp
    · show max fz.2 (0 + n) ≤ n
      omega
  · simp only [Array.getElem?_modify]
    rw [if_neg (fun e => hj (by simpa using e.symm))]

set_option maxRecDepth 100000 in
set_option maxHeartbeats 4000000 in
theorem c_blen {k cap : Nat} {ao : Option Addr} {l : List UInt8} (w : World) (hL : Laid w) (h : BA w k ao cap l) :
    Calls Tryz.prog 119 #[.pointer (some ⟨k, 0, none⟩)] w fun r w' => r = .returned (.int .i64 (l.length : Int)) ∧ Below w.heap.size w w' := by
  go_enter Tryz.func119, Tryz.ntmps119
  have M := Mem.start hL
  refine sq ?_
  refine sR ?_
  refine rV 3 ?_
  refine pE M 6 k 1 (.slice ao l.length cap) (fun w M => M.oldc h.cell1 (by simp)) ?_
  refine rV 2 ?_
  refine nT ?_
  refine wp_ret ?_
  exact b1 M

theorem row_cell {u : World} {g : Nat} {cur : Array Value} {fz : Nat × Nat} {l : List UInt8} (h : u.heap[g]? = some (.cells cur 5 fz)) (ht : cur.toList.take (l.length * 1) = Lib.byteCells l) {j : Nat} {x : UInt8} (hx : l[j]? = some x) : u.cell? ⟨g, j, none⟩ = some (.int .u8 x.toNat) := by
  have h2 : (Lib.byteCells l)[j]? = some (.int .u8 x.toNat) := by simp [Lib.byteCells, hx]
  rw [← ht, List.getElem?_take] at h2
  split at h2
  · unfold World.cell?
    rw [h]
    simpa using h2
  · cases h2
set_option maxRecDepth 100000 in
set_option maxHeartbeats 4000000 in
theorem c_bstr {k cap : Nat} {ao : Option Addr} {l : List UInt8} (w : World) (hL : Laid w) (h : BA w k ao cap l) (hne : ∀ x ∈ k :: rowOf ao, 1 < x) (h0 : l ≠ []) :
    Calls Tryz.prog 107 #[.pointer (some ⟨k, 0, none⟩)] w fun r w' => r = .returned (.string ⟨l.toArray⟩) ∧ ∃ ao' cap', BA w' k ao' cap' l ∧ Grw w w' (k :: rowOf ao) ∧ (rowOf ao' = rowOf ao ∨ ∃ g, rowOf ao' = [g] ∧ w.heap.size ≤ g) := by
  have hl0 : l.length ≠ 0 := by simpa using h0
  obtain ⟨g, cur, fz, rfl, hg, hfz, hnc, hcm, hcs, htake⟩ : ∃ g cur fz, ao = some ⟨g, 0, none⟩ ∧ w.heap[g]? = some (.cells cur 5 fz) ∧ fz.2 ≤ l.length ∧ l.length ≤ cap ∧ cap ≤ maxLen ∧ cur.size = cap * 1 ∧ cur.toList.take (l.length * 1) = Lib.byteCells l := by
    rcases h.own.2 with ⟨_, hz⟩ | ⟨g, c, cur, fz, hv, _, h2, h3, h4⟩
    · exact absurd hz hl0
    · cases hv
      exact ⟨g, cur, fz, rfl, h2, by simpa using h3, h4⟩
  have hgk : g ≠ k := fun e => h.ne (by simp [rowOf, e])
  have M : Mem ⟨w, [g]⟩ [⟨g, .cells cur 5 fz⟩] w := ⟨grown_refl _ _, by simpa using hg, by simp, by simp, hL, fun x e => hne x (List.mem_cons_of_mem _ (by simpa [rowOf] using e))⟩
  go_enter Tryz.func107, Tryz.ntmps107
  refine sq ?_
  refine wp_seq ?_
  refine rgh M [] 11 fun u1 M => ?_
  have qM := M.drop (.cons _ (.slnil))
  refine qV qM 0 3 (.pointer (some ⟨k, 0, none⟩)) ?_
  refine qV qM 1 4 (.pointer (some ⟨k, 0, none⟩)) ?_
  refine qV qM 2 5 (.pointer (some ⟨k, 1, none⟩)) ?_
  refine qC qM 3 6 k 1 (.slice (some ⟨g, 0, none⟩) l.length cap) (fun w M => M.oldc h.cell1 (by simpa using Ne.symm hgk)) ?_
  refine qH qM 4 7 (.pointer (some ⟨g, 0, none⟩)) (fun w _ => (fun w => Eq.trans (b := (do pure (Next.value (← Builtin.unsafeSliceData_ #[97] 192 #[.slice (some ⟨g, 0, none⟩) l.length cap]))).run Tryz.prog w) (by kernel_rfl) (by simp only [Sem.run_bind, Lib.run_unsafeSliceData_row w #[97] 192 ⟨g, 0, none⟩ l.length cap (by omega), Result.andThen_ok, Sem.run_pure])) w) ?_
  refine qV qM 5 8 (.pointer (some ⟨k, 0, none⟩)) ?_
  refine qV qM 6 9 (.pointer (some ⟨k, 0, none⟩)) ?_
  refine qV qM 7 10 (.pointer (some ⟨k, 1, none⟩)) ?_
  refine qC qM 8 11 k 1 (.slice (some ⟨g, 0, none⟩) l.length cap) (fun w M => M.oldc h.cell1 (by simpa using Ne.symm hgk)) ?_
  refine qV qM 9 12 (.int .i64 (l.length : Int)) ?_
  refine qO 10 ?_
  have hg1 : u1.heap[g]? = some (.cells cur 5 fz) := M.get 0 rfl
  have hUS := Lib.run_unsafeString_row (P := Tryz.prog) u1 192 3 9 5 Tryz.underlying192 repExtra.cellsByte g cur.size (by simp [World.shape?, hg1]) l h0 (by omega) (by unfold maxLen at hcm; omega) (fun j x hx => by rw [add_at, Nat.zero_add]; exact row_cell hg1 htake hx)
  obtain ⟨fz1, hf1, hf2, hf3⟩ := freeze_row hg1 hfz (by simpa using h0)
  refine pl_to (want_no rfl) (some 13) rfl (.string ⟨l.toArray⟩) (u1.freeze ⟨g, 0, none⟩ l.length) (show _ = _ from Eq.trans (b := (do pure (Next.value (← Builtin.unsafeString_ #[192, 3] 9 #[.pointer (some ⟨g, 0, none⟩), .int .i64 l.length]))).run Tryz.prog u1) (by kernel_rfl) (by simp only [Sem.run_bind, hUS, Result.andThen_ok, Sem.run_pure])) ?_
  replace M := M.put 0 _ rfl _ hf3 hf1
  generalize u1.freeze ⟨g, 0, none⟩ l.length = u2 at M ⊢
  refine nT ?_
  refine ⟨(M.drop (.cons _ (.slnil))), ?_⟩
  refine qZ ?_
  refine rV 1 ?_
  refine nT ?_
  refine au_then ?_
  refine wp_ret ?_
  refine bodyPost_ret (v := .string ⟨l.toArray⟩) (results_tmp1 Tryz.results107 _ _ _ (by kernel_rfl)) (by kernel_rfl) ⟨rfl, some ⟨g, 0, none⟩, cap, ⟨?_, ⟨by simp [Lib.byteCells_length], .inr ⟨g, cap, cur, fz1, rfl, Nat.zero_le _, M.get 0 rfl, by omega, hnc, hcm, hcs, htake⟩⟩⟩, ?_, .inl rfl⟩
  · have e := M.old.block k h.lt (by simpa using Ne.symm hgk)
    rw [show u2.heap[k]? = w.heap[k]? from e]; exact h.at_
  · exact ⟨M.old.os, M.old.tape, M.old.output, M.old.size, fun j hj hr => M.old.block j hj fun e => hr (List.mem_cons_of_mem _ (by simpa [rowOf] using e))⟩

theorem flatMap_eq {α β : Type} {f g : α → List β} : ∀ (l : List α), (∀ a ∈ l, f a = g a) → l.flatMap f = l.flatMap g
  | [], _ => rfl
  | a :: l, h => by rw [List.flatMap_cons, List.flatMap_cons, h a (List.mem_cons_self ..), flatMap_eq l fun b hb => h b (List.mem_cons_of_mem _ hb)]
/-- A builder among others. -/
structure Bd where
  k : Nat
  l : List UInt8
def owns (V : Nat → Option Addr × Nat) (Bs : List Bd) : List Nat := Bs.flatMap fun b => b.k :: rowOf (V b.k).1
/-- Builders, and blocks beside them, of a call that is under way. -/
structure SN (w : World) (Bs : List Bd) (L : List Blk) (u : World) : Prop where
  bel : Below w.heap.size w u
  at_ : ∀ b ∈ L, u.heap[b.g]? = some b.Z
  ex : ∃ V : Nat → Option Addr × Nat, (∀ b ∈ Bs, BA u b.k (V b.k).1 (V b.k).2 b.l) ∧ (owns V Bs ++ L.map Blk.g).Nodup ∧ ∀ x ∈ owns V Bs ++ L.map Blk.g, w.heap.size ≤ x
theorem owns_lt {u : World} {V : Nat → Option Addr × Nat} {Bs : List Bd} (h : ∀ b ∈ Bs, BA u b.k (V b.k).1 (V b.k).2 b.l) : ∀ x ∈ owns V Bs, x < u.heap.size := fun x hx => by
  obtain ⟨b, hb, hx⟩ := List.mem_flatMap.1 hx
  rcases List.mem_cons.1 hx with rfl | hx
  · exact (h b hb).lt
  · exact (h b hb).row_lt x hx
theorem SN.lt {w u : World} {Bs : List Bd} {L : List Blk} (h : SN w Bs L u) {b : Blk} (hb : b ∈ L) : b.g < u.heap.size := (Array.getElem?_eq_some_iff.1 (h.at_ b hb)).1
theorem SN.mem {w u : World} {Bs : List Bd} {L : List Blk} (h : SN w Bs L u) (hL : Laid w) : Mem ⟨u, L.map Blk.g⟩ L u := by
  obtain ⟨V, h1, h2, h3⟩ := h.ex
  exact ⟨grown_refl _ _, h.at_, fun b hb => .inr (List.mem_map_of_mem hb), (List.nodup_append.1 h2).2.1, below_laid h.bel hL, fun x e => by
    have := h3 x (List.mem_append.2 (.inr e))
    have := hL.lt
    omega⟩
theorem SN.next {w u u' : World} {Bs : List Bd} {L L' : List Blk} (h : SN w Bs L u) (M : Mem ⟨u, L.map Blk.g⟩ L' u') : SN w Bs L' u' := by
  obtain ⟨V, h1, h2, h3⟩ := h.ex
  obtain ⟨n1, n2, n3⟩ := List.nodup_append.1 h2
  have hsz := h.bel.size
  have ho : Grw u u' (L.map Blk.g) := M.old
  have hk : ∀ x ∈ owns V Bs, u'.heap[x]? = u.heap[x]? := fun x hx => ho.block x (owns_lt h1 x hx) fun hm => n3 x hx x hm rfl
  refine ⟨h.bel.trans ⟨ho.os, ho.tape, ho.output, ho.size, fun j hj => ho.block j (by omega) fun hm => ?_⟩, M.at_, V, fun b hb => ?_, ?_, fun x hx => ?_⟩
  · have := h3 j (List.mem_append.2 (.inr hm))
    omega
  · exact (h1 b hb).keep (hk _ (List.mem_flatMap.2 ⟨b, hb, List.mem_cons_self ..⟩)) fun g hg => hk _ (List.mem_flatMap.2 ⟨b, hb, List.mem_cons_of_mem _ hg⟩)
  · refine List.nodup_append.2 ⟨n1, M.nodup, fun x hx y hy e => ?_⟩
    subst e
    obtain ⟨b, hb, rfl⟩ := List.mem_map.1 hy
    rcases M.ge b hb with h4 | h4
    · have h4 : u.heap.size ≤ b.g := h4
      have := owns_lt h1 _ hx
      omega
    · exact n3 _ hx _ h4 rfl
  · rcases List.mem_append.1 hx with hx | hx
    · exact h3 x (List.mem_append.2 (.inl hx))
    · obtain ⟨b, hb, rfl⟩ := List.mem_map.1 hx
      rcases M.ge b hb with h4 | h4
      · have h4 : u.heap.size ≤ b.g := h4
        omega
      · exact h3 _ (List.mem_append.2 (.inr h4))
theorem SN.keep {w u u' : World} {Bs : List Bd} {L : List Blk} (h : SN w Bs L u) (hL : Laid w) (hb : Below u.heap.size u u') : SN w Bs L u' := h.next ((h.mem hL).keep hb)
theorem SN.perm {w u : World} {Bs Bs' : List Bd} {L : List Blk} (h : SN w Bs L u) (hp : Bs.Perm Bs') : SN w Bs' L u := by
  obtain ⟨V, h1, h2, h3⟩ := h.ex
  have hq : (owns V Bs ++ L.map Blk.g).Perm (owns V Bs' ++ L.map Blk.g) := (hp.flatMap_right _).append_right _
  exact ⟨h.bel, h.at_, V, fun b hb => h1 b (hp.mem_iff.2 hb), hq.nodup_iff.1 h2, fun x hx => h3 x (hq.mem_iff.2 hx)⟩
theorem SN.drop {w u : World} {Bs : List Bd} {L L' : List Blk} (h : SN w Bs L u) (hp : L'.Sublist L) : SN w Bs L' u := by
  obtain ⟨V, h1, h2, h3⟩ := h.ex
  have hq : (owns V Bs ++ L'.map Blk.g).Sublist (owns V Bs ++ L.map Blk.g) := (List.Sublist.refl _).append (hp.map _)
  exact ⟨h.bel, fun b hb => h.at_ b (hp.subset hb), V, h1, h2.sublist hq, fun x hx => h3 x (hq.subset hx)⟩
theorem SN.cell {w u : World} {Bs : List Bd} {L : List Blk} (h : SN w Bs L u) {g i : Nat} {v : Value} (hg : g < w.heap.size) (hc : w.cell? ⟨g, i, none⟩ = some v) : u.cell? ⟨g, i, none⟩ = some v := by
  unfold World.cell? at hc ⊢
  simp only at hc ⊢
  rw [h.bel.block g hg]
  exact hc
/-- The first builder is written to. -/
theorem SN.step {w u u' : World} {k : Nat} {l l' : List UInt8} {Bs : List Bd} {L : List Blk} {V : Nat → Option Addr × Nat} (hbel : Below w.heap.size w u) (hat : ∀ b ∈ L, u.heap[b.g]? = some b.Z) (h1 : ∀ b ∈ (⟨k, l⟩ :: Bs : List Bd), BA u b.k (V b.k).1 (V b.k).2 b.l) (h2 : (owns V (⟨k, l⟩ :: Bs) ++ L.map Blk.g).Nodup) (h3 : ∀ x ∈ owns V (⟨k, l⟩ :: Bs) ++ L.map Blk.g, w.heap.size ≤ x)
    {ao : Option Addr} {cap : Nat} (hb : BA u' k ao cap l') (hg : Grw u u' (k :: rowOf (V k).1)) (hao : rowOf ao = rowOf (V k).1 ∨ ∃ g, rowOf ao = [g] ∧ u.heap.size ≤ g) : SN w (⟨k, l'⟩ :: Bs) L u' := by
  have hsz := hbel.size
  have hown : owns V (⟨k, l⟩ :: Bs) = k :: (rowOf (V k).1 ++ owns V Bs) := rfl
  have hmine : ∀ x ∈ k :: rowOf (V k).1, w.heap.size ≤ x := fun x hx => h3 x (List.mem_append.2 (.inl (by
    rw [hown]
    rcases List.mem_cons.1 hx with rfl | hx
    · exact List.mem_cons_self ..
    · exact List.mem_cons_of_mem _ (List.mem_append.2 (.inl hx)))))
  rw [hown, List.cons_append, List.append_assoc] at h2
  have h2' : ((k :: rowOf (V k).1) ++ (owns V Bs ++ L.map Blk.g)).Nodup := h2
  obtain ⟨n1, n2, n3⟩ := List.nodup_append.1 h2'
  have hlt : ∀ x ∈ owns V Bs ++ L.map Blk.g, x < u.heap.size := fun x hx => by
    rcases List.mem_append.1 hx with hx | hx
    · exact owns_lt (fun b hb => h1 b (List.mem_cons_of_mem _ hb)) x hx
    · obtain ⟨b, hb, rfl⟩ := List.mem_map.1 hx
      exact (Array.getElem?_eq_some_iff.1 (hat b hb)).1
  have hkeep : ∀ x ∈ owns V Bs ++ L.map Blk.g, u'.heap[x]? = u.heap[x]? := fun x hx => hg.block x (hlt x hx) fun hm => n3 x hm x hx rfl
  have hV : ∀ b ∈ Bs, (if b.k = k then (ao, cap) else V b.k) = V b.k := fun b hb => if_neg fun e => n3 k (List.mem_cons_self ..) b.k (List.mem_append.2 (.inl (List.mem_flatMap.2 ⟨b, hb, List.mem_cons_self ..⟩))) e.symm
  have hownV : owns (fun j => if j = k then (ao, cap) else V j) Bs = owns V Bs := by
    unfold owns
    refine flatMap_eq Bs fun b hb => ?_
    show b.k :: rowOf (if b.k = k then (ao, cap) else V b.k).1 = _
    rw [hV b hb]
  have hown2 : owns (fun j => if j = k then (ao, cap) else V j) (⟨k, l'⟩ :: Bs) = k :: (rowOf ao ++ owns V Bs) := by
    rw [← hownV]
    show k :: rowOf (if k = k then (ao, cap) else V k).1 ++ _ = _
    rw [if_pos rfl]
    rfl
  have hnew : ∀ x ∈ rowOf ao, (x ∈ rowOf (V k).1 ∨ u.heap.size ≤ x) := fun x hx => by
    rcases hao with h | ⟨g, h, h4⟩
    · rw [h] at hx
      exact .inl hx
    · rw [h] at hx
      rw [List.mem_singleton.1 hx]
      exact .inr h4
  refine ⟨hbel.trans ⟨hg.os, hg.tape, hg.output, hg.size, fun j hj => hg.block j (by omega) fun hm => ?_⟩, fun b hb => ?_, fun j => if j = k then (ao, cap) else V j, fun b hm => ?_, ?_, ?_⟩
  · have := hmine j hm
    omega
  · rw [hkeep _ (List.mem_append.2 (.inr (List.mem_map_of_mem hb)))]
    exact hat b hb
  · rcases List.mem_cons.1 hm with rfl | hb
    · show BA u' k (if k = k then (ao, cap) else V k).1 (if k = k then (ao, cap) else V k).2 l'
      rw [if_pos rfl]
      exact hb
    · show BA u' b.k (if b.k = k then (ao, cap) else V b.k).1 (if b.k = k then (ao, cap) else V b.k).2 b.l
      rw [hV b hb]
      exact (h1 b (List.mem_cons_of_mem _ hb)).keep (hkeep _ (List.mem_append.2 (.inl (List.mem_flatMap.2 ⟨b, hb, List.mem_cons_self ..⟩)))) fun g hg => hkeep _ (List.mem_append.2 (.inl (List.mem_flatMap.2 ⟨b, hb, List.mem_cons_of_mem _ hg⟩)))
  · rw [hown2, List.cons_append, List.append_assoc]
    show ((k :: rowOf ao) ++ (owns V Bs ++ L.map Blk.g)).Nodup
    have hk : k < u.heap.size := (h1 _ (List.mem_cons_self ..)).lt
    refine List.nodup_append.2 ⟨List.nodup_cons.2 ⟨hb.ne, ?_⟩, n2, fun x hx y hy e => ?_⟩
    · cases ao with
      | none => simp [rowOf]
      | some a => simp [rowOf]
    · subst e
      rcases List.mem_cons.1 hx with rfl | hx
      · exact n3 _ (List.mem_cons_self ..) _ hy rfl
      · rcases hnew x hx with h | h
        · exact n3 _ (List.mem_cons_of_mem _ h) _ hy rfl
        · have := hlt x hy
          omega
  · intro x hx
    rw [hown2, List.cons_append, List.append_assoc] at hx
    rcases List.mem_cons.1 hx with rfl | hx
    · exact hmine _ (List.mem_cons_self ..)
    · rcases List.mem_append.1 hx with hx | hx
      · rcases hnew x hx with h | h
        · exact hmine x (List.mem_cons_of_mem _ h)
        · omega
      · refine h3 x ?_
        rw [hown, List.cons_append, List.append_assoc]
        exact List.mem_cons_of_mem _ (List.mem_append.2 (.inr hx))
theorem SN.not1 {w : World} {k : Nat} {l : List UInt8} {Bs : List Bd} {L : List Blk} {V : Nat → Option Addr × Nat} (hL : Laid w) (h3 : ∀ x ∈ owns V (⟨k, l⟩ :: Bs) ++ L.map Blk.g, w.heap.size ≤ x) : ∀ x ∈ k :: rowOf (V k).1, 1 < x := fun x e => by
  have := h3 x (List.mem_append.2 (.inl (List.mem_append.2 (.inl e))))
  have := hL.lt
  omega
theorem SN.wstr {w u : World} {k : Nat} {l : List UInt8} {Bs : List Bd} {L : List Blk} (h : SN w (⟨k, l⟩ :: Bs) L u) (hL : Laid w) (s : ByteArray) (hz : l.length + s.size ≤ 1000000) : Calls Tryz.prog 118 #[.pointer (some ⟨k, 0, none⟩), .string s] u fun r u' => r = .returned (.tuple #[.int .i64 (s.size : Int), .nilIface]) ∧ SN w (⟨k, l ++ s.data.toList⟩ :: Bs) L u' := by
  obtain ⟨V, h1, h2, h3⟩ := h.ex
  refine (c_wstr s u (below_laid h.bel hL) (h1 _ (List.mem_cons_self ..)) (SN.not1 hL h3) hz).mono ?_
  rintro r u' ⟨rfl, ao, cap, h4, h5, h6⟩
  exact ⟨rfl, SN.step h.bel h.at_ h1 h2 h3 h4 h5 h6⟩
theorem SN.wbyte {w u : World} {k : Nat} {l : List UInt8} {Bs : List Bd} {L : List Blk} (h : SN w (⟨k, l⟩ :: Bs) L u) (hL : Laid w) (c : Int) (h0 : 0 ≤ c) (hc : c < 256) (hz : l.length + 1 ≤ 1000000) : Calls Tryz.prog 106 #[.pointer (some ⟨k, 0, none⟩), .int .u8 c] u fun r u' => r = .returned .nilIface ∧ SN w (⟨k, l ++ [UInt8.ofNat c.toNat]⟩ :: Bs) L u' := by
  obtain ⟨V, h1, h2, h3⟩ := h.ex
  refine (c_wbyte c u (below_laid h.bel hL) (h1 _ (List.mem_cons_self ..)) (SN.not1 hL h3) hz h0 hc).mono ?_
  rintro r u' ⟨rfl, ao, cap, h4, h5, h6⟩
  exact ⟨rfl, SN.step h.bel h.at_ h1 h2 h3 h4 h5 h6⟩
theorem SN.str {w u : World} {k : Nat} {l : List UInt8} {Bs : List Bd} {L : List Blk} (h : SN w (⟨k, l⟩ :: Bs) L u) (hL : Laid w) (h0 : l ≠ []) : Calls Tryz.prog 107 #[.pointer (some ⟨k, 0, none⟩)] u fun r u' => r = .returned (.string ⟨l.toArray⟩) ∧ SN w (⟨k, l⟩ :: Bs) L u' := by
  obtain ⟨V, h1, h2, h3⟩ := h.ex
  refine (c_bstr u (below_laid h.bel hL) (h1 _ (List.mem_cons_self ..)) (SN.not1 hL h3) h0).mono ?_
  rintro r u' ⟨rfl, ao, cap, h4, h5, h6⟩
  exact ⟨rfl, SN.step h.bel h.at_ h1 h2 h3 h4 h5 h6⟩
theorem SN.len {w u : World} {k : Nat} {l : List UInt8} {Bs : List Bd} {L : List Blk} (h : SN w (⟨k, l⟩ :: Bs) L u) (hL : Laid w) : Calls Tryz.prog 119 #[.pointer (some ⟨k, 0, none⟩)] u fun r u' => r = .returned (.int .i64 (l.length : Int)) ∧ SN w (⟨k, l⟩ :: Bs) L u' := by
  obtain ⟨V, h1, h2, h3⟩ := h.ex
  refine (c_blen u (below_laid h.bel hL) (h1 _ (List.mem_cons_self ..))).mono ?_
  rintro r u' ⟨rfl, h4⟩
  exact ⟨rfl, h.keep hL h4⟩
/-- Two new builders. -/
theorem SN.start2 {w u : World} {k1 k2 : Nat} {L : List Blk} (M : Mem ⟨w, []⟩ (⟨k1, .cells (av 2 bF0) 165⟩ :: ⟨k2, .cells (av 2 bF0) 165⟩ :: L) u) : SN w [⟨k1, []⟩, ⟨k2, []⟩] L u := by
  have hba : ∀ k, u.heap[k]? = some (.cells (av 2 bF0) 165) → BA u k none 0 [] := fun k h => ⟨.inl h, by simp [Lib.byteCells], .inl ⟨rfl, rfl⟩⟩
  refine ⟨below_grown M.old, fun b hb => M.at_ b (List.mem_cons_of_mem _ (List.mem_cons_of_mem _ hb)), fun _ => (none, 0), fun b hb => ?_, M.nodup, fun x hx => ?_⟩
  · rcases List.mem_cons.1 hb with rfl | hb
    · exact hba _ (M.get 0 rfl)
    · rw [List.mem_singleton.1 hb]
      exact hba _ (M.get 1 rfl)
  · have hx2 : x ∈ ((⟨k1, .cells (av 2 bF0) 165⟩ :: ⟨k2, .cells (av 2 bF0) 165⟩ :: L : List Blk).map Blk.g) := hx
    obtain ⟨b, hb, rfl⟩ := List.mem_map.1 hx2
    exact (M.ge b hb).elim id fun h => by cases h

end Go.Proofs.YtenafinbaanicaaGreatDoor
namespace Go.Proofs.YtenafinbaanicaaGreatDoor.Pol
open Go.RowKit

theorem inz24 : (Tryz.prog.info? 24).map (·.size) = some 1 := by kernel_rfl
theorem inz5 : (Tryz.prog.info? 5).map (·.size) = some 1 := by kernel_rfl
theorem inz178 : (Tryz.prog.info? 178).map (·.size) = some 5 := by kernel_rfl
theorem inz177 : (Tryz.prog.info? 177).map (·.size) = some 5 := by kernel_rfl
theorem inz160 : (Tryz.prog.info? 160).map (·.size) = some 18 := by kernel_rfl
theorem inz195 : (Tryz.prog.info? 195).map (·.size) = some 17 := by kernel_rfl
theorem inz198 : (Tryz.prog.info? 198).map (·.size) = some 9 := by kernel_rfl
theorem inz201 : (Tryz.prog.info? 201).map (·.size) = some 6 := by kernel_rfl
theorem inz202 : (Tryz.prog.info? 202).map (·.size) = some 16 := by kernel_rfl
theorem inz190 : (Tryz.prog.info? 190).map (·.size) = some 36 := by kernel_rfl
theorem inz3 : (Tryz.prog.info? 3).map (·.size) = some 1 := by kernel_rfl
theorem inz4 : (Tryz.prog.info? 4).map (·.size) = some 1 := by kernel_rfl
theorem inz9 : (Tryz.prog.info? 9).map (·.size) = some 1 := by kernel_rfl
theorem inz38 : (Tryz.prog.info? 38).map (·.size) = some 1 := by kernel_rfl
theorem inz97 : (Tryz.prog.info? 97).map (·.size) = some 1 := by kernel_rfl
theorem wrap64 {x : Int} (h0 : -9223372036854775808 ≤ x) (h1 : x < 9223372036854775808) : IntKind.wrap .i64 x = x := by
  simp [IntKind.wrap, IntKind.signed, IntKind.bits, go_sem]
  omega
theorem run_ixL {P : Program} {a : Act} {o : Oper} (t elem : TypeId) (hu : P.underlying t = some (.slice elem)) (hs : (P.info? elem).map (·.size) = some 1) (x ix : Operand) (ho : o.op = .indexAddr t x ix) (g off len cap : Nat) (hx : a.eval x = .slice (some ⟨g, off, none⟩) len cap) (k : IntKind) (i : Nat) (hi : a.eval ix = .int k (i : Int)) (hlt : i < len) (w : World) :
    (execOp a.eval o).run P w = .ok (.value (.pointer (some ⟨g, off + i, none⟩))) w := by
  cases hq : P.info? elem with
  | none => simp [hq] at hs
  | some u =>
    have hsz : u.size = 1 := by simpa [hq] using hs
    unfold execOp
    simp [ho, hx, hi, Instr.indexAt, asIntOf, run_underlying hu, sizeOf, typeInfo, hq, hsz, add_at, hlt]
theorem run_strl {P : Program} {a : Act} {o : Oper} (t : TypeId) (hu : P.underlying t = some .string) (x lo : Operand) (ho : o.op = .slice t x (some lo) none none) (s : ByteArray) (hx : a.eval x = .string s) (k : IntKind) (i : Nat) (hi : a.eval lo = .int k (i : Int)) (hle : i ≤ s.size) (v : ByteArray) (hv : s.extract i s.size = v) (w : World) :
    (execOp a.eval o).run P w = .ok (.value (.string v)) w := by
  subst hv
  unfold execOp
  simp [ho, hx, hi, run_sliceAt_string w t (.string s) (some (.int k i)) none none hu, run_slice_string_l w t s hu k i (by omega) (by omega)]
theorem run_strh {P : Program} {a : Act} {o : Oper} (t : TypeId) (hu : P.underlying t = some .string) (x hi : Operand) (ho : o.op = .slice t x none (some hi) none) (s : ByteArray) (hx : a.eval x = .string s) (k : IntKind) (i : Nat) (hh : a.eval hi = .int k (i : Int)) (hle : i ≤ s.size) (v : ByteArray) (hv : s.extract 0 i = v) (w : World) :
    (execOp a.eval o).run P w = .ok (.value (.string v)) w := by
  subst hv
  unfold execOp
  simp [ho, hx, hh, run_sliceAt_string w t (.string s) none (some (.int k i)) none hu, run_slice_string_h w t s hu k i (by omega) (by omega)]
theorem run_cat {P : Program} {a : Act} {o : Oper} (t rt : TypeId) (x y : Operand) (ho : o.op = .binOp .add t x y rt) (s u : ByteArray) (hx : a.eval x = .string s) (hy : a.eval y = .string u) (hb : s.size + u.size ≤ 9223372036854775807) (w : World) :
    (execOp a.eval o).run P w = .ok (.value (.string (s ++ u))) w := by
  have h := run_string_add_sum (P := P) (w := w) s u hb
  unfold execOp
  simp [ho, hx, hy, eqGuard, binOp, h]
theorem run_ixS {P : Program} {a : Act} {o : Oper} (t : TypeId) (hu : P.underlying t = some .string) (x ix : Operand) (ho : o.op = .index t x ix) (s : ByteArray) (hx : a.eval x = .string s) (k : IntKind) (i : Nat) (hi : a.eval ix = .int k (i : Int)) (hlt : i < s.size) (w : World) :
    (execOp a.eval o).run P w = .ok (.value (.int .u8 (bt s i))) w := by
  have e : s[i]? = some s[i] := ByteArray.getElem?_lt' s i hlt
  have e2 : bt s i = (s[i].toNat : Int) := by
    unfold bt
    rw [Array.getElem?_eq_getElem hlt]
    rfl
  unfold execOp
  simp [ho, hx, hi, Instr.index, asIntOf, run_underlying hu, e, e2]
theorem run_strlh {P : Program} {a : Act} {o : Oper} (t : TypeId) (hu : P.underlying t = some .string) (x lo hi : Operand) (ho : o.op = .slice t x (some lo) (some hi) none) (s : ByteArray) (hx : a.eval x = .string s) (k k' : IntKind) (i j : Nat) (hl : a.eval lo = .int k (i : Int)) (hh : a.eval hi = .int k' (j : Int)) (hij : i ≤ j) (hle : j ≤ s.size) (w : World) :
    (execOp a.eval o).run P w = .ok (.value (.string (s.extract i j))) w := by
  unfold execOp
  simp [ho, hx, hl, hh, run_sliceAt_string w t (.string s) (some (.int k i)) (some (.int k' j)) none hu, run_slice_string w t s k k' i j hu (by omega) (by omega) (by omega)]
/-- Exclusive or, of bytes. -/
def xb (x y : Int) : Int := IntKind.wrap .u8 (BitVec.ofInt 8 x ^^^ BitVec.ofInt 8 y).toNat
theorem sb_av (n : Nat) (F : Nat → Int) (T : TypeId) : SB (.cells (av n (w8 F)) T) n (vs8 ((List.range n).map F)) := ⟨_, T, (0, 0), rfl, by simp [vs8], by rw [av_size]; exact Nat.le_refl _, fun i hi => by
  simp [vs8] at hi
  simp [vs8, av, w8, hi], fun i _ => by simp⟩
theorem run_ix0 {P : Program} {a : Act} {o : Oper} (t elem : TypeId) (hu : P.underlying t = some (.slice elem)) (hs : (P.info? elem).map (·.size) = some 1) (x ix : Operand) (ho : o.op = .indexAddr t x ix) (g len cap : Nat) (hx : a.eval x = .slice (some ⟨g, 0, none⟩) len cap) (k : IntKind) (i : Nat) (hi : a.eval ix = .int k (i : Int)) (hlt : i < len) (w : World) :
    (execOp a.eval o).run P w = .ok (.value (.pointer (some ⟨g, i, none⟩))) w := by
  have h := run_ixL (P := P) t elem hu hs x ix ho g 0 len cap hx k i hi hlt w
  rwa [Nat.zero_add] at h
theorem xb_nn (x y : Int) : 0 ≤ xb x y ∧ xb x y < 256 := by
  unfold xb
  simp [IntKind.wrap, IntKind.signed, IntKind.bits]
  omega
theorem quo26 (j : Nat) (hj : j < 1000000) : IntKind.wrap .i64 ((j : Int).tdiv 26) = ((j / 26 : Nat) : Int) := by
  rw [Int.tdiv_eq_ediv_of_nonneg (by omega), wrap64 (by omega) (by omega)]
  omega
theorem rem26 (n : Nat) : Int.tmod (n : Int) 26 = ((n % 26 : Nat) : Int) := by
  rw [Int.tmod_eq_emod_of_nonneg (by omega)]
  omega
def ob8 (x y : Int) : Int := IntKind.wrap .u8 (BitVec.ofInt 8 x ||| BitVec.ofInt 8 y).toNat
def nb8 (x y : Int) : Int := IntKind.wrap .u8 (BitVec.ofInt 8 x &&& BitVec.ofInt 8 y).toNat
def db8 (x y : Int) : Int := IntKind.wrap .u8 (BitVec.ofInt 8 x &&& ~~~ BitVec.ofInt 8 y).toNat
theorem run_shlU {P : Program} {a : Act} {o : Oper} (t rt : TypeId) (x y : Operand) (ho : o.op = .binOp .shl t x y rt) (k : Int) (ky : IntKind) (m : Nat) (hx : a.eval x = .int .u64 k) (hy : a.eval y = .int ky (m : Int)) (_hm : m ≤ 64) (w : World) :
    (execOp a.eval o).run P w = .ok (.value (.int .u64 (sl k m))) w := by
  unfold execOp sl
  simp [ho, hx, hy, eqGuard, binOp]
theorem run_shrU {P : Program} {a : Act} {o : Oper} (t rt : TypeId) (x y : Operand) (ho : o.op = .binOp .shr t x y rt) (k : Int) (ky : IntKind) (m : Nat) (hx : a.eval x = .int .u64 k) (hy : a.eval y = .int ky (m : Int)) (_hm : m ≤ 64) (w : World) :
    (execOp a.eval o).run P w = .ok (.value (.int .u64 (sr k m))) w := by
  have hp : (0 : Int) ≤ 2 ^ m := Int.le_of_lt (Int.pow_pos (by decide))
  unfold execOp sr
  rw [Int.fdiv_eq_ediv_of_nonneg k hp]
  simp [ho, hx, hy, eqGuard, binOp]
/-- A slice's end, from a place on. -/
theorem run_slL {P : Program} {a : Act} {o : Oper} (t e : TypeId) (hu : P.underlying t = some (.slice e)) (hs : (P.info? e).map (·.size) = some 1) (x lo : Operand) (ho : o.op = .slice t x (some lo) none none) (g off len cap : Nat) (hx : a.eval x = .slice (some ⟨g, off, none⟩) len cap) (k : IntKind) (i : Nat) (hi : a.eval lo = .int k (i : Int)) (hlt : i < cap) (hle : i ≤ len) (w : World) :
    (execOp a.eval o).run P w = .ok (.value (.slice (some ⟨g, off + i, none⟩) (len - i) (cap - i))) w := by
  cases hq : P.info? e with
  | none => simp [hq] at hs
  | some u =>
    have hsz : u.size = 1 := by simpa [hq] using hs
    have hne : ¬ cap = i := by omega
    unfold execOp
    simp [ho, hx, hi, Instr.sliceAt, Instr.slice, run_underlying hu, Instr.sliceBounds, run_sliceBound, sizeOf, typeInfo, hq, hsz, add_at, hne, hle]
/-- A slice's part, with its own bound. -/
theorem run_slM {P : Program} {a : Act} {o : Oper} (t e : TypeId) (hu : P.underlying t = some (.slice e)) (hs : (P.info? e).map (·.size) = some 1) (x lo hi mx : Operand) (ho : o.op = .slice t x (some lo) (some hi) (some mx)) (g off len cap : Nat) (hx : a.eval x = .slice (some ⟨g, off, none⟩) len cap) (k k' k2 : IntKind) (i j : Nat) (hi1 : a.eval lo = .int k (i : Int)) (hi2 : a.eval hi = .int k' (j : Int)) (hi3 : a.eval mx = .int k2 (j : Int)) (hlt : i < j) (hle : j ≤ cap) (w : World) :
    (execOp a.eval o).run P w = .ok (.value (.slice (some ⟨g, off + i, none⟩) (j - i) (j - i))) w := by
  cases hq : P.info? e with
  | none => simp [hq] at hs
  | some u =>
    have hsz : u.size = 1 := by simpa [hq] using hs
    have hne : ¬ j = i := by omega
    have hle2 : i ≤ j := by omega
    unfold execOp
    simp [ho, hx, hi1, hi2, hi3, Instr.sliceAt, Instr.slice, run_underlying hu, Instr.sliceBounds, run_sliceBound, sizeOf, typeInfo, hq, hsz, add_at, hne, hle, hle2]
section
variable {P : Program} {ops : Array Oper} {rest : List Oper} {o : Oper} {a : Act} {w : World} {c : Ctx} {L : List Blk} {Q : Exit → Act → World → Prop}
/-- Cells of memory that was there ahead, copied to a place of a block. -/
theorem pl_copyC (M : Mem c L w) (hw : Region.wanted o (yielded ops a.tmps) = true) (d : Option Tmp) (hd : o.dst = d) (dT sT ty elem : TypeId) (hu : P.underlying dT = some (.slice elem)) (hz : (P.info? elem).map (·.size) = some 1) (i g n T : Nat) (F : Nat → Value) (hi : L[i]? = some ⟨g, .cells (av n F) T⟩) (g2 : Nat) (F2 : Nat → Value) (od dl dc os sl sc k : Nat) (hk : k = Nat.min sl dl) (hd1 : od + k ≤ n) (hsrc : ∀ w, Mem c L w → ∀ j, j < k → w.cell? ⟨g2, os + j, none⟩ = some (F2 j)) (h1 : ∀ j, (F2 j).oneCell' = true) (Fn : Nat → Value) (hfn : ∀ j, j < n → (if od ≤ j ∧ j < od + k then F2 (j - od) else F j) = Fn j)
    (hrun : ∀ w, (execOp a.eval o).run P w = (do pure (Next.value (← Builtin.copy_ #[dT, sT] ty #[.slice (some ⟨g, od, none⟩) dl dc, .slice (some ⟨g2, os, none⟩) sl sc]))).run P w)
    (h : ∀ w', Mem c (L.set i ⟨g, .cells (av n Fn) T⟩) w' → PL P ops Q rest (a.put d (goInt k)) w') : PL P ops Q (o :: rest) a w := by
  have R := M.get i hi
  have hl : (av k F2).toList.length = k := by simp [av_size]
  have hr := run_copy_cells (P := P) w dT sT ty elem g od dl dc ⟨g2, os, none⟩ sl sc (av k F2).toList hu hz (by rw [hl, hk])
    (fun j v hv => by
      obtain ⟨hj, rfl⟩ := av_toList_get _ _ _ _ hv
      rw [add_at]
      exact hsrc w M j hj)
    (fun j hj => by rw [hl] at hj; rw [cell_av R (by omega)]; rfl) (fun j hj => free_av R _)
    (fun v hv => by
      obtain ⟨j, hj⟩ := List.mem_iff_getElem?.1 hv
      obtain ⟨hj', rfl⟩ := av_toList_get _ _ _ _ hj
      exact h1 _)
  rw [hl] at hr
  refine pl_to hw d hd (goInt k) _ ?_ (h _ (M.put i ⟨g, _⟩ hi _ (grown_setCells g _ _ _) (by rw [heap_setCells g T _ w _ od R, setAll_av n F F2 Fn od k hd1 hfn])))
  rw [hrun]
  simp only [Sem.run_bind, hr, Result.andThen_ok, Sem.run_pure]
end
theorem min_if (x y : Nat) : (if (y : Int) < (x : Int) then (y : Int) else (x : Int)) = ((min x y : Nat) : Int) := by
  by_cases h : y < x
  · rw [if_pos (by omega), Nat.min_eq_right (by omega)]
  · rw [if_neg (by omega), Nat.min_eq_left (by omega)]

end Go.Proofs.YtenafinbaanicaaGreatDoor.Pol
namespace Go.Proofs.YtenafinbaanicaaGreatDoor.Pol
open Go.RowKit

/-- What goes to the next part, and the parts that are settled. -/
def cy (sh : Nat) (a : Nat → Int) : Nat → Int
  | 0 => 0
  | j + 1 => sr (ua (a j) (cy sh a j)) sh
def st (m : Int) (sh : Nat) (a : Nat → Int) : Nat → (Nat → Int)
  | 0 => a
  | j + 1 => upd (st m sh a j) j (un (ua (a j) (cy sh a j)) m)
def s5 (a : Nat → Int) : Nat → Int := st 67108863 26 a 5
def c5 (a : Nat → Int) : Int := cy 26 a 5

set_option maxRecDepth 100000 in
set_option maxHeartbeats 4000000 in
theorem c_settled (x : Nat → Int) (w : World) (hL : Laid w)  :
    Calls Tryz.prog 127 #[.agg (av 5 (w64 x))] w fun r w' => r = .returned (.tuple #[.agg (av 5 (w64 (s5 x))), .int .u64 (c5 x)]) ∧ Below w.heap.size w w' := by
  go_enter Tryz.func127, Tryz.ntmps127
  have M := Mem.start hL
  refine sR ?_
  refine pN M 1 (.cells (av 5 (w64 x)) 178) fun g1 u1 M => ?_
  refine pN M 2 (.cells (av 5 (w64 (fun _ => 0))) 178) fun g2 u2 M => ?_
  refine rV 1 ?_
  refine nT ?_
  refine sq ?_
  refine wp_seq ?_
  refine sR ?_
  refine pA M 7 0 5 (w64 x) ?_
  refine rV 1 ?_
  refine nT ?_
  refine wp_block ?_
  refine au_loop (fun j a w' => ∃ v1 : Nat → Value, a = (fm ([.agg (av 5 (w64 x)), .pointer (some ⟨g1, 0, none⟩), .pointer (some ⟨g2, 0, none⟩), .int .u64 0, .int .u64 (cy 26 x j)] ++ vr v1 5 2 ++ [.agg (av 5 (w64 x)), .int .i64 (j : Int)] ++ vr v1 9 15)) ∧ Mem ⟨w, []⟩ [⟨g1, .cells (av 5 (w64 (st 67108863 26 x j))) 178⟩, ⟨g2, .cells (av 5 (w64 (fun _ => 0))) 178⟩] w') 5 (exS M) ?_ ?_
  · intro j a u0 hj hI
    obtain ⟨v1, rfl, M⟩ := hI
    refine sR ?_
    refine ZT 9 ((j : Int) < 5) ?_
    refine nT ?_
    refine wp_seq ?_
    refine wp_cond_true (by kernel_rfl) ?_
    refine wp_skip ?_
    refine au_then ?_
    refine wp_seq ?_
    refine wp_block ?_
    refine sR ?_
    refine rV 1 ?_
    refine pH 11 (.int .u64 (x (j))) (run_ixA 178 5 24 Tryz.underlying178 inz24 (fun _ => by kernel_rfl) _ _ rfl (w64 x) (by kernel_rfl) .i64 (j) (by kernel_rfl) (by omega) rfl) ?_
    refine rV 2 ?_
    refine nT ?_
    refine sq ?_
    refine rg_lit ?_
    refine rV 5 ?_
    refine ZX 20 .i64 g1 (j) 5 ?_
    refine ZP64 M 0 j (un (ua (x (j)) (cy 26 x j)) 67108863) fun u3 M => ?_
    refine rV 1 ?_
    refine pl_nil ?_
    refine au_block ?_
    refine au_then ?_
    refine rg_lit ?_
    refine ZI 21 ((j : Int) + 1) ((j + 1 : Nat) : Int) ?_
    refine rV 1 ?_
    refine nT ?_
    exact exS M
  · intro a u0 hI
    obtain ⟨v1, rfl, M⟩ := hI
    refine sR ?_
    refine ZF 9 (5 < 5) ?_
    refine nT ?_
    refine wp_seq ?_
    refine wp_cond_false (by kernel_rfl) ?_
    refine wp_exit ?_
    refine au_then_exit ?_
    refine au_then_exit ?_
    refine au_block_exit ?_
    refine au_then ?_
    refine sR ?_
    refine pA M 22 0 5 (w64 (st 67108863 26 x 5)) ?_
    refine rV 1 ?_
    refine ZG M 1 5 (w64 (st 67108863 26 x 5)) fun u4 M => ?_
    refine rV 1 ?_
    refine nT ?_
    refine wp_ret ?_
    exact bct Tryz.results127 M 1 5 (w64 (st 67108863 26 x 5)) (.int .u64 (cy 26 x 5)) ⟨rfl, below_grown M.old⟩

def cr1 (a : Nat → Int) : Nat → Int := upd (s5 a) 0 (ua (s5 a 0) (um (c5 a) 5))
def crr (a : Nat → Int) : Nat → (Nat → Int)
  | 0 => a
  | j + 1 => cr1 (crr a j)
def crF (a : Nat → Int) : Nat → Int := cr1 (cr1 a)

set_option maxRecDepth 100000 in
set_option maxHeartbeats 4000000 in
theorem c_carried (x : Nat → Int) (w : World) (hL : Laid w)  :
    Calls Tryz.prog 126 #[.agg (av 5 (w64 x))] w fun r w' => r = .returned (.agg (av 5 (w64 (crF x)))) ∧ Below w.heap.size w w' := by
  go_enter Tryz.func126, Tryz.ntmps126
  have M := Mem.start hL
  refine sR ?_
  refine pN M 1 (.cells (av 5 (w64 x)) 178) fun g1 u1 M => ?_
  refine pN M 2 (.cells (av 5 (w64 (fun _ => 0))) 178) fun g2 u2 M => ?_
  refine nT ?_
  refine wp_seq ?_
  refine sq ?_
  refine wp_block ?_
  refine au_loop (fun j a w' => ∃ v1 : Nat → Value, a = (fm ([.agg (av 5 (w64 x)), .pointer (some ⟨g1, 0, none⟩), .pointer (some ⟨g2, 0, none⟩)] ++ vr v1 3 2 ++ [.int .i64 (j : Int)] ++ vr v1 6 15)) ∧ Mem ⟨w, []⟩ [⟨g1, .cells (av 5 (w64 (crr x j))) 178⟩, ⟨g2, .cells (av 5 (w64 (fun _ => 0))) 178⟩] w') 2 (exS M) ?_ ?_
  · intro j a u0 hj hI
    obtain ⟨v1, rfl, M⟩ := hI
    refine sR ?_
    refine ZT 6 ((j : Int) < 2) ?_
    refine nT ?_
    refine wp_seq ?_
    refine wp_cond_true (by kernel_rfl) ?_
    refine wp_skip ?_
    refine au_then ?_
    refine wp_seq ?_
    refine wp_block ?_
    refine sR ?_
    refine pA M 8 0 5 (w64 (crr x j)) ?_
    refine ZC M 9 (fun w M => c_settled (crr x j) w M.laid) fun u3 M => ?_
    refine rV 3 ?_
    refine pN M 3 (.cells (av 5 (w64 (fun _ => 0))) 178) fun g3 u4 M => ?_
    refine ZG M 2 5 (w64 (s5 (crr x j))) fun u5 M => ?_
    refine rV 1 ?_
    refine nT ?_
    refine sR ?_
    refine rV 1 ?_
    refine ZE M 13 2 0 ?_
    refine rV 4 ?_
    refine ZP64 M 2 0 (ua ((s5 (crr x j)) 0) (um (c5 (crr x j)) 5)) fun u6 M => ?_
    refine nT ?_
    refine rg_lit ?_
    refine pA M 18 2 5 (w64 (upd (s5 (crr x j)) 0 (ua ((s5 (crr x j)) 0) (um (c5 (crr x j)) 5)))) ?_
    refine ZG M 0 5 (w64 (upd (s5 (crr x j)) 0 (ua ((s5 (crr x j)) 0) (um (c5 (crr x j)) 5)))) fun u7 M => ?_
    refine pl_nil ?_
    refine au_block ?_
    refine au_then ?_
    refine rg_lit ?_
    refine ZI 19 ((j : Int) + 1) ((j + 1 : Nat) : Int) ?_
    refine rV 1 ?_
    refine nT ?_
    exact exS (M.drop (.cons_cons _ (.cons_cons _ (.cons _ (.slnil)))))
  · intro a u0 hI
    obtain ⟨v1, rfl, M⟩ := hI
    refine sR ?_
    refine ZF 6 (2 < 2) ?_
    refine nT ?_
    refine wp_seq ?_
    refine wp_cond_false (by kernel_rfl) ?_
    refine wp_exit ?_
    refine au_then_exit ?_
    refine au_then_exit ?_
    refine au_block_exit ?_
    refine au_then ?_
    refine sR ?_
    refine pA M 20 0 5 (w64 (crr x 2)) ?_
    refine ZG M 1 5 (w64 (crr x 2)) fun u8 M => ?_
    refine nT ?_
    refine wp_ret ?_
    exact bc Tryz.results126 M 1 5 (w64 (crr x 2)) ⟨rfl, below_grown M.old⟩

def pls (a b : Nat → Int) : Nat → (Nat → Int)
  | 0 => a
  | j + 1 => upd (pls a b j) j (ua (pls a b j j) (b j))
def plF (a b : Nat → Int) : Nat → Int := pls a b 5

set_option maxRecDepth 100000 in
set_option maxHeartbeats 4000000 in
theorem c_plus (x y : Nat → Int) (w : World) (hL : Laid w)  :
    Calls Tryz.prog 113 #[.agg (av 5 (w64 x)), .agg (av 5 (w64 y))] w fun r w' => r = .returned (.agg (av 5 (w64 (plF x y)))) ∧ Below w.heap.size w w' := by
  go_enter Tryz.func113, Tryz.ntmps113
  have M := Mem.start hL
  refine sR ?_
  refine pN M 2 (.cells (av 5 (w64 x)) 178) fun g1 u1 M => ?_
  refine pN M 3 (.cells (av 5 (w64 y)) 178) fun g2 u2 M => ?_
  refine pN M 4 (.cells (av 5 (w64 (fun _ => 0))) 178) fun g3 u3 M => ?_
  refine nT ?_
  refine wp_seq ?_
  refine sq ?_
  refine wp_block ?_
  refine au_loop (fun j a w' => ∃ v1 : Nat → Value, a = (fm ([.agg (av 5 (w64 x)), .agg (av 5 (w64 y)), .pointer (some ⟨g1, 0, none⟩), .pointer (some ⟨g2, 0, none⟩), .pointer (some ⟨g3, 0, none⟩), v1 5, .int .i64 (j : Int)] ++ vr v1 7 12)) ∧ Mem ⟨w, []⟩ [⟨g1, .cells (av 5 (w64 (pls x y j))) 178⟩, ⟨g2, .cells (av 5 (w64 y)) 178⟩, ⟨g3, .cells (av 5 (w64 (fun _ => 0))) 178⟩] w') 5 (exS M) ?_ ?_
  · intro j a u0 hj hI
    obtain ⟨v1, rfl, M⟩ := hI
    refine sR ?_
    refine ZT 7 ((j : Int) < 5) ?_
    refine nT ?_
    refine wp_seq ?_
    refine wp_cond_true (by kernel_rfl) ?_
    refine wp_skip ?_
    refine au_then ?_
    refine wp_seq ?_
    refine wp_block ?_
    refine sq ?_
    refine rg_tail M 8 (by kernel_rfl) (by kernel_rfl) ?_
    simp only [List.take_succ_cons, List.take_zero]
    refine kR 1 ?_
    refine eX 10 .i64 g1 (j) 5 ?_
    refine eE M 11 0 j ?_
    refine kR 1 ?_
    refine eX 13 .i64 g2 (j) 5 ?_
    refine eE M 14 1 j ?_
    refine kR 1 ?_
    refine eX 16 .i64 g1 (j) 5 ?_
    refine kl_nil fun u4 M => ?_
    refine ZP64 M 0 j (ua ((pls x y j) j) (y j)) fun u5 M => ?_
    refine pl_nil ?_
    refine au_block ?_
    refine au_then ?_
    refine rg_lit ?_
    refine ZI 17 ((j : Int) + 1) ((j + 1 : Nat) : Int) ?_
    refine rV 1 ?_
    refine nT ?_
    exact exS M
  · intro a u0 hI
    obtain ⟨v1, rfl, M⟩ := hI
    refine sR ?_
    refine ZF 7 (5 < 5) ?_
    refine nT ?_
    refine wp_seq ?_
    refine wp_cond_false (by kernel_rfl) ?_
    refine wp_exit ?_
    refine au_then_exit ?_
    refine au_then_exit ?_
    refine au_block_exit ?_
    refine au_then ?_
    refine sR ?_
    refine pA M 18 0 5 (w64 (pls x y 5)) ?_
    refine ZG M 2 5 (w64 (pls x y 5)) fun u6 M => ?_
    refine nT ?_
    refine wp_ret ?_
    exact bc Tryz.results113 M 2 5 (w64 (pls x y 5)) ⟨rfl, below_grown M.old⟩

def mo5 (a : Nat → Int) : Nat → Int := upd a 0 (ua (a 0) 5)
def lsF (a : Nat → Int) : Nat → Int := s5 (upd a 0 (ua (a 0) (um (c5 (mo5 a)) 5)))

set_option maxRecDepth 100000 in
set_option maxHeartbeats 4000000 in
theorem c_least (x : Nat → Int) (w : World) (hL : Laid w)  :
    Calls Tryz.prog 116 #[.agg (av 5 (w64 x))] w fun r w' => r = .returned (.agg (av 5 (w64 (lsF x)))) ∧ Below w.heap.size w w' := by
  go_enter Tryz.func116, Tryz.ntmps116
  have M := Mem.start hL
  refine sR ?_
  refine pN M 1 (.cells (av 5 (w64 x)) 178) fun g1 u1 M => ?_
  refine pN M 2 (.cells (av 5 (w64 (fun _ => 0))) 178) fun g2 u2 M => ?_
  refine nT ?_
  refine sR ?_
  refine pA M 6 0 5 (w64 x) ?_
  refine pN M 3 (.cells (av 5 (w64 (fun _ => 0))) 178) fun g3 u3 M => ?_
  refine ZG M 2 5 (w64 x) fun u4 M => ?_
  refine nT ?_
  refine sR ?_
  refine rV 1 ?_
  refine ZE M 8 2 0 ?_
  refine rV 2 ?_
  refine ZP64 M 2 0 (ua (x 0) 5) fun u5 M => ?_
  refine nT ?_
  refine sR ?_
  refine pA M 12 2 5 (w64 (mo5 x)) ?_
  refine ZC M 13 (fun w M => c_settled (mo5 x) w M.laid) fun u6 M => ?_
  refine rV 3 ?_
  refine pN M 4 (.cells (av 5 (w64 (fun _ => 0))) 178) fun g4 u7 M => ?_
  refine ZG M 3 5 (w64 (s5 (mo5 x))) fun u8 M => ?_
  refine rV 1 ?_
  refine nT ?_
  refine sR ?_
  refine rV 1 ?_
  refine ZE M 17 0 0 ?_
  refine rV 4 ?_
  refine ZP64 M 0 0 (ua (x 0) (um (c5 (mo5 x)) 5)) fun u9 M => ?_
  refine nT ?_
  refine sR ?_
  refine pA M 23 0 5 (w64 (upd x 0 (ua (x 0) (um (c5 (mo5 x)) 5)))) ?_
  refine ZC M 24 (fun w M => c_settled (upd x 0 (ua (x 0) (um (c5 (mo5 x)) 5))) w M.laid) fun u10 M => ?_
  refine rV 3 ?_
  refine ZG M 0 5 (w64 (s5 (upd x 0 (ua (x 0) (um (c5 (mo5 x)) 5))))) fun u11 M => ?_
  refine nT ?_
  refine sR ?_
  refine pA M 27 0 5 (w64 (s5 (upd x 0 (ua (x 0) (um (c5 (mo5 x)) 5))))) ?_
  refine ZG M 1 5 (w64 (s5 (upd x 0 (ua (x 0) (um (c5 (mo5 x)) 5))))) fun u12 M => ?_
  refine nT ?_
  refine wp_ret ?_
  exact bc Tryz.results116 M 1 5 (w64 (s5 (upd x 0 (ua (x 0) (um (c5 (mo5 x)) 5))))) ⟨rfl, below_grown M.old⟩

def nof (p : Nat → Int) : Nat → (Nat → Int)
  | 0 => fun _ => 0
  | j + 1 => upd (nof p j) (8 * j / 26) (uo (nof p j (8 * j / 26)) (sl (cv .u64 (p j)) (8 * j % 26)))
def noF (p : Nat → Int) : Nat → Int := s5 (nof p 17)

set_option maxRecDepth 100000 in
set_option maxHeartbeats 4000000 in
theorem c_number (p : Nat → Int) (w : World) (hL : Laid w)  :
    Calls Tryz.prog 124 #[.agg (av 17 (w8 p))] w fun r w' => r = .returned (.agg (av 5 (w64 (noF p)))) ∧ Below w.heap.size w w' := by
  go_enter Tryz.func124, Tryz.ntmps124
  have M := Mem.start hL
  refine sR ?_
  refine pN M 1 (.cells (av 17 (w8 p)) 195) fun g1 u1 M => ?_
  refine pN M 2 (.cells (av 5 (w64 (fun _ => 0))) 178) fun g2 u2 M => ?_
  refine nT ?_
  refine sR ?_
  refine pN M 3 (.cells (av 5 (w64 (fun _ => 0))) 178) fun g3 u3 M => ?_
  refine nT ?_
  refine wp_seq ?_
  refine sR ?_
  refine pA M 6 0 17 (w8 p) ?_
  refine rV 1 ?_
  refine nT ?_
  refine wp_block ?_
  refine au_loop (fun j a w' => ∃ v1 : Nat → Value, a = (fm ([.agg (av 17 (w8 p)), .pointer (some ⟨g1, 0, none⟩), .pointer (some ⟨g2, 0, none⟩), .pointer (some ⟨g3, 0, none⟩)] ++ vr v1 4 2 ++ [.agg (av 17 (w8 p)), .int .i64 (j : Int)] ++ vr v1 8 23)) ∧ Mem ⟨w, []⟩ [⟨g1, .cells (av 17 (w8 p)) 195⟩, ⟨g2, .cells (av 5 (w64 (fun _ => 0))) 178⟩, ⟨g3, .cells (av 5 (w64 (nof p j))) 178⟩] w') 17 (exS M) ?_ ?_
  · intro j a u0 hj hI
    obtain ⟨v1, rfl, M⟩ := hI
    refine sR ?_
    refine ZT 8 ((j : Int) < 17) ?_
    refine nT ?_
    refine wp_seq ?_
    refine wp_cond_true (by kernel_rfl) ?_
    refine wp_skip ?_
    refine au_then ?_
    refine wp_seq ?_
    refine wp_block ?_
    refine sR ?_
    refine rV 1 ?_
    refine pH 10 (.int .u8 (p (j))) (run_ixA 195 17 5 Tryz.underlying195 inz5 (fun _ => by kernel_rfl) _ _ rfl (w8 p) (by kernel_rfl) .i64 (j) (by kernel_rfl) (by omega) rfl) ?_
    refine rV 2 ?_
    refine nT ?_
    refine rg_tail M 13 (by kernel_rfl) (by kernel_rfl) ?_
    simp only [List.take_succ_cons, List.take_zero]
    refine kR 1 ?_
    refine eI 12 (8 * (j : Int)) ((8 * j : Nat) : Int) ?_
    refine eQ 13 .i64 (IntKind.wrap .i64 (((8 * j : Nat) : Int).tdiv 26)) (quo26 (8 * j) (by omega)) ?_
    refine eX 14 .i64 g3 ((8 * j / 26 : Nat)) 5 ?_
    refine eE M 15 2 ((8 * j / 26 : Nat)) ?_
    refine kR 3 ?_
    refine eI 19 (8 * (j : Int)) ((8 * j : Nat) : Int) ?_
    refine eQ 20 .i64 (Int.tmod ((8 * j : Nat) : Int) 26) (rem26 (8 * j)) ?_
    refine kH 21 (.int .u64 (sl (cv .u64 (p j)) (8 * j % 26))) (run_shlU 24 3 _ _ rfl _ .i64 (8 * j % 26) (by kernel_rfl) (by kernel_rfl) (by omega)) ?_
    refine kR 1 ?_
    refine eX 23 .i64 g3 ((8 * j / 26 : Nat)) 5 ?_
    refine kl_nil fun u4 M => ?_
    refine ZP64 M 2 ((8 * j / 26 : Nat)) (uo ((nof p j) ((8 * j / 26 : Nat))) (sl (cv .u64 (p j)) (8 * j % 26))) fun u5 M => ?_
    refine pl_nil ?_
    refine au_block ?_
    refine au_then ?_
    refine rg_lit ?_
    refine ZI 24 ((j : Int) + 1) ((j + 1 : Nat) : Int) ?_
    refine rV 1 ?_
    refine nT ?_
    exact exS M
  · intro a u0 hI
    obtain ⟨v1, rfl, M⟩ := hI
    refine sR ?_
    refine ZF 8 (17 < 17) ?_
    refine nT ?_
    refine wp_seq ?_
    refine wp_cond_false (by kernel_rfl) ?_
    refine wp_exit ?_
    refine au_then_exit ?_
    refine au_then_exit ?_
    refine au_block_exit ?_
    refine au_then ?_
    refine sR ?_
    refine pA M 26 2 5 (w64 (nof p 17)) ?_
    refine ZC M 27 (fun w M => c_settled (nof p 17) w M.laid) fun u6 M => ?_
    refine rV 3 ?_
    refine ZG M 2 5 (w64 (s5 (nof p 17))) fun u7 M => ?_
    refine nT ?_
    refine sR ?_
    refine pA M 30 2 5 (w64 (s5 (nof p 17))) ?_
    refine ZG M 1 5 (w64 (s5 (nof p 17))) fun u8 M => ?_
    refine nT ?_
    refine wp_ret ?_
    exact bc Tryz.results124 M 1 5 (w64 (s5 (nof p 17))) ⟨rfl, below_grown M.old⟩

/-- Some bytes, and 0 behind them. -/
def pd (b : Nat → Int) (n : Nat) : Nat → Int := fun i => if i < n then b i else 0
theorem pd_fn (b : Nat → Int) (n : Nat) (j : Nat) : (if 0 ≤ j ∧ j < 0 + n then w8 b (j - 0) else w8 (fun _ => 0) j) = w8 (pd b n) j := by
  unfold w8 pd
  by_cases h : j < n
  · rw [if_pos (by omega), if_pos h, Nat.sub_zero]
  · rw [if_neg (by omega), if_neg h]
def fc1 (p : Nat → Int) : Nat → Int := upd (upd (upd (upd p 3 (nb8 (p 3) 15)) 7 (nb8 (p 7) 15)) 11 (nb8 (p 11) 15)) 15 (nb8 (p 15) 15)
def fc2 (p : Nat → Int) : Nat → Int := upd (upd (upd p 4 (db8 (p 4) 3)) 8 (db8 (p 8) 3)) 12 (db8 (p 12) 3)
def mk (b : Nat → Int) (n : Nat) : Nat → Int := upd (pd b n) n 1

set_option maxRecDepth 100000 in
set_option maxHeartbeats 4000000 in
theorem c_plain (s : ByteArray) (hs : s.size = 16) (w : World) (hL : Laid w)  :
    Calls Tryz.prog 111 #[.string s] w fun r w' => r = .returned (.agg (av 5 (w64 (noF (pd (bt s) 16))))) ∧ Below w.heap.size w w' := by
  go_enter Tryz.func111, Tryz.ntmps111
  have M := Mem.start hL
  refine sR ?_
  refine pN M 2 (.cells (av 5 (w64 (fun _ => 0))) 178) fun g1 u1 M => ?_
  refine nT ?_
  refine sR ?_
  refine pN M 3 (.cells (av 17 (w8 (fun _ => 0))) 195) fun g2 u2 M => ?_
  refine nT ?_
  refine sR ?_
  refine rV 2 ?_
  refine pl_copyS M (want_no rfl) (some 6) rfl 97 9 3 5 Tryz.underlying97 inz5 1 g2 17 195 (w8 (fun _ => 0)) rfl 0 17 17 s 16 (by rw [hs]; decide) (by decide) (w8 (pd (bt s) 16)) (fun j _ => pd_fn (bt s) 16 j) (fun _ => by kernel_rfl) fun u3 M => ?_
  refine nT ?_
  refine sR ?_
  refine pA M 7 1 17 (w8 (pd (bt s) 16)) ?_
  refine ZC M 8 (fun w M => c_number (pd (bt s) 16) w M.laid) fun u4 M => ?_
  refine ZG M 0 5 (w64 (noF (pd (bt s) 16))) fun u5 M => ?_
  refine nT ?_
  refine wp_ret ?_
  exact bc Tryz.results111 M 0 5 (w64 (noF (pd (bt s) 16))) ⟨rfl, below_grown M.old⟩

set_option maxRecDepth 100000 in
set_option maxHeartbeats 4000000 in
theorem c_factor (s : ByteArray) (hs : s.size = 16) (w : World) (hL : Laid w)  :
    Calls Tryz.prog 110 #[.string s] w fun r w' => r = .returned (.agg (av 5 (w64 (noF (fc2 (fc1 (pd (bt s) 16))))))) ∧ Below w.heap.size w w' := by
  go_enter Tryz.func110, Tryz.ntmps110
  have M := Mem.start hL
  refine sR ?_
  refine pN M 2 (.cells (av 5 (w64 (fun _ => 0))) 178) fun g1 u1 M => ?_
  refine nT ?_
  refine sR ?_
  refine pN M 3 (.cells (av 17 (w8 (fun _ => 0))) 195) fun g2 u2 M => ?_
  refine nT ?_
  refine sR ?_
  refine rV 2 ?_
  refine pl_copyS M (want_no rfl) (some 8) rfl 97 9 3 5 Tryz.underlying97 inz5 1 g2 17 195 (w8 (fun _ => 0)) rfl 0 17 17 s 16 (by rw [hs]; decide) (by decide) (w8 (pd (bt s) 16)) (fun j _ => pd_fn (bt s) 16 j) (fun _ => by kernel_rfl) fun u3 M => ?_
  refine nT ?_
  refine wp_seq ?_
  refine sq ?_
  refine wp_block ?_
  refine wp_loop_rounds 5 ?_
  refine rounds_go ?_
  refine wp_seq ?_
  refine sq ?_
  refine wp_cond_true (by kernel_rfl) ?_
  refine wp_skip ?_
  refine au_then ?_
  refine wp_seq ?_
  refine wp_block ?_
  refine rg_lit ?_
  refine rV 2 ?_
  refine ZE M 15 1 3 ?_
  refine rV 2 ?_
  refine ZP8 M 1 3 (nb8 ((pd (bt s) 16) 3) 15) fun u4 M => ?_
  refine pl_nil ?_
  refine au_block ?_
  refine au_then ?_
  refine rg_lit ?_
  refine rV 3 ?_
  refine nT ?_
  refine rounds_go ?_
  refine wp_seq ?_
  refine sq ?_
  refine wp_cond_true (by kernel_rfl) ?_
  refine wp_skip ?_
  refine au_then ?_
  refine wp_seq ?_
  refine wp_block ?_
  refine rg_lit ?_
  refine rV 2 ?_
  refine ZE M 15 1 7 ?_
  refine rV 2 ?_
  refine ZP8 M 1 7 (nb8 ((pd (bt s) 16) 7) 15) fun u5 M => ?_
  refine pl_nil ?_
  refine au_block ?_
  refine au_then ?_
  refine rg_lit ?_
  refine rV 3 ?_
  refine nT ?_
  refine rounds_go ?_
  refine wp_seq ?_
  refine sq ?_
  refine wp_cond_true (by kernel_rfl) ?_
  refine wp_skip ?_
  refine au_then ?_
  refine wp_seq ?_
  refine wp_block ?_
  refine rg_lit ?_
  refine rV 2 ?_
  refine ZE M 15 1 11 ?_
  refine rV 2 ?_
  refine ZP8 M 1 11 (nb8 ((pd (bt s) 16) 11) 15) fun u6 M => ?_
  refine pl_nil ?_
  refine au_block ?_
  refine au_then ?_
  refine rg_lit ?_
  refine rV 3 ?_
  refine nT ?_
  refine rounds_go ?_
  refine wp_seq ?_
  refine sq ?_
  refine wp_cond_true (by kernel_rfl) ?_
  refine wp_skip ?_
  refine au_then ?_
  refine wp_seq ?_
  refine wp_block ?_
  refine rg_lit ?_
  refine rV 2 ?_
  refine ZE M 15 1 15 ?_
  refine rV 2 ?_
  refine ZP8 M 1 15 (nb8 ((pd (bt s) 16) 15) 15) fun u7 M => ?_
  refine pl_nil ?_
  refine au_block ?_
  refine au_then ?_
  refine rg_lit ?_
  refine rV 3 ?_
  refine nT ?_
  refine rounds_go ?_
  refine wp_seq ?_
  refine sq ?_
  refine wp_cond_false (by kernel_rfl) ?_
  refine wp_exit ?_
  refine au_then_exit ?_
  refine au_then_exit ?_
  refine au_block_exit ?_
  refine au_then ?_
  refine wp_seq ?_
  refine sR ?_
  refine rV 1 ?_
  refine nT ?_
  refine wp_block ?_
  refine wp_loop_rounds 4 ?_
  refine rounds_go ?_
  refine wp_seq ?_
  refine sq ?_
  refine wp_cond_true (by kernel_rfl) ?_
  refine wp_skip ?_
  refine au_then ?_
  refine wp_seq ?_
  refine wp_block ?_
  refine rg_lit ?_
  refine rV 2 ?_
  refine ZE M 24 1 4 ?_
  refine rV 2 ?_
  refine ZP8 M 1 4 (db8 ((fc1 (pd (bt s) 16)) 4) 3) fun u8 M => ?_
  refine pl_nil ?_
  refine au_block ?_
  refine au_then ?_
  refine rg_lit ?_
  refine rV 3 ?_
  refine nT ?_
  refine rounds_go ?_
  refine wp_seq ?_
  refine sq ?_
  refine wp_cond_true (by kernel_rfl) ?_
  refine wp_skip ?_
  refine au_then ?_
  refine wp_seq ?_
  refine wp_block ?_
  refine rg_lit ?_
  refine rV 2 ?_
  refine ZE M 24 1 8 ?_
  refine rV 2 ?_
  refine ZP8 M 1 8 (db8 ((fc1 (pd (bt s) 16)) 8) 3) fun u9 M => ?_
  refine pl_nil ?_
  refine au_block ?_
  refine au_then ?_
  refine rg_lit ?_
  refine rV 3 ?_
  refine nT ?_
  refine rounds_go ?_
  refine wp_seq ?_
  refine sq ?_
  refine wp_cond_true (by kernel_rfl) ?_
  refine wp_skip ?_
  refine au_then ?_
  refine wp_seq ?_
  refine wp_block ?_
  refine rg_lit ?_
  refine rV 2 ?_
  refine ZE M 24 1 12 ?_
  refine rV 2 ?_
  refine ZP8 M 1 12 (db8 ((fc1 (pd (bt s) 16)) 12) 3) fun u10 M => ?_
  refine pl_nil ?_
  refine au_block ?_
  refine au_then ?_
  refine rg_lit ?_
  refine rV 3 ?_
  refine nT ?_
  refine rounds_go ?_
  refine wp_seq ?_
  refine sq ?_
  refine wp_cond_false (by kernel_rfl) ?_
  refine wp_exit ?_
  refine au_then_exit ?_
  refine au_then_exit ?_
  refine au_block_exit ?_
  refine au_then ?_
  refine sR ?_
  refine pA M 27 1 17 (w8 (fc2 (fc1 (pd (bt s) 16)))) ?_
  refine ZC M 28 (fun w M => c_number (fc2 (fc1 (pd (bt s) 16))) w M.laid) fun u11 M => ?_
  refine ZG M 0 5 (w64 (noF (fc2 (fc1 (pd (bt s) 16))))) fun u12 M => ?_
  refine nT ?_
  refine wp_ret ?_
  exact bc Tryz.results110 M 0 5 (w64 (noF (fc2 (fc1 (pd (bt s) 16))))) ⟨rfl, below_grown M.old⟩

set_option maxRecDepth 100000 in
set_option maxHeartbeats 4000000 in
theorem c_marked (b : Nat → Int) (n : Nat) (hn : n ≤ 16) (gq off cap : Nat) (w : World) (hL : Laid w) (hsrc : ∀ j, j < n → w.cell? ⟨gq, off + j, none⟩ = some (w8 b j)) :
    Calls Tryz.prog 114 #[.slice (some ⟨gq, off, none⟩) n cap] w fun r w' => r = .returned (.agg (av 5 (w64 (noF (mk b n))))) ∧ Below w.heap.size w w' := by
  go_enter Tryz.func114, Tryz.ntmps114
  have M := Mem.start hL
  refine sR ?_
  refine pN M 2 (.cells (av 5 (w64 (fun _ => 0))) 178) fun g1 u1 M => ?_
  refine nT ?_
  refine sR ?_
  refine pN M 3 (.cells (av 17 (w8 (fun _ => 0))) 195) fun g2 u2 M => ?_
  refine nT ?_
  refine sR ?_
  refine rV 2 ?_
  refine pl_copyC M (want_no rfl) (some 6) rfl 97 97 3 5 Tryz.underlying97 inz5 1 g2 17 195 (w8 (fun _ => 0)) rfl gq (w8 b) 0 17 17 off n cap n (Nat.min_eq_left (by omega)).symm (by omega) (fun w M j hj => M.oldc (hsrc j hj) (by simp)) (fun _ => rfl) (w8 (pd b n)) (fun j _ => pd_fn b n j) (fun _ => by kernel_rfl) fun u3 M => ?_
  refine ZX 7 .i64 g2 (n) 17 ?_
  refine ZP8 M 1 n 1 fun u4 M => ?_
  refine nT ?_
  refine sR ?_
  refine pA M 8 1 17 (w8 (mk b n)) ?_
  refine ZC M 9 (fun w M => c_number (mk b n) w M.laid) fun u5 M => ?_
  refine ZG M 0 5 (w64 (noF (mk b n))) fun u6 M => ?_
  refine nT ?_
  refine wp_ret ?_
  exact bc Tryz.results114 M 0 5 (w64 (noF (mk b n))) ⟨rfl, below_grown M.old⟩

/-- The parts, and 0 behind them. -/
def p6 (a : Nat → Int) : Nat → Int := fun i => if i < 5 then a i else 0
theorem p6_fn (a : Nat → Int) (j : Nat) : (if 0 ≤ j ∧ j < 0 + 5 then w64 a (0 + (j - 0)) else w64 (fun _ => 0) j) = w64 (p6 a) j := by
  unfold w64 p6
  by_cases h : j < 5
  · rw [if_pos (by omega), if_pos h, Nat.sub_zero, Nat.zero_add]
  · rw [if_neg (by omega), if_neg h]
def tb (a : Nat → Int) (i : Nat) : Int := cv .u8 (sr (uo (p6 a (8 * i / 26)) (sl (p6 a (8 * i / 26 + 1)) 26)) (8 * i % 26))
def tbs (a : Nat → Int) : Nat → (Nat → Int)
  | 0 => fun _ => 0
  | j + 1 => upd (tbs a j) j (tb a j)
theorem cv8_nn (x : Int) : 0 ≤ cv .u8 x ∧ cv .u8 x < 256 := by
  unfold cv
  simp [IntKind.wrap, IntKind.signed, IntKind.bits]
  omega
theorem tbs_at (a : Nat → Int) : ∀ n, ∀ i, i < n → tbs a n i = tb a i
  | 0, i, h => absurd h (by omega)
  | n + 1, i, h => by
    unfold tbs upd
    by_cases e : i = n
    · rw [if_pos e, e]
    · rw [if_neg e, tbs_at a n i (by omega)]
theorem tbs_map (a : Nat → Int) : (List.range 16).map (tbs a 16) = (List.range 16).map (tb a) := List.map_congr_left fun i hi => tbs_at a 16 i (List.mem_range.1 hi)
theorem tb_nn (a : Nat → Int) : ∀ y ∈ (List.range 16).map (tb a), 0 ≤ y ∧ y < 256 := fun y hy => by
  obtain ⟨i, _, rfl⟩ := List.mem_map.1 hy
  exact cv8_nn _
/-- The lowest sixteen bytes. -/
def txS (a : Nat → Int) : ByteArray := bs ((List.range 16).map (tb (s5 a)))

set_option maxRecDepth 100000 in
set_option maxHeartbeats 4000000 in
theorem c_text (x : Nat → Int) (w : World) (hL : Laid w)  :
    Calls Tryz.prog 117 #[.agg (av 5 (w64 x))] w fun r w' => r = .returned (.string (txS x)) ∧ Below w.heap.size w w' := by
  go_enter Tryz.func117, Tryz.ntmps117
  have M := Mem.start hL
  refine sR ?_
  refine pN M 1 (.cells (av 5 (w64 x)) 178) fun g1 u1 M => ?_
  refine rV 1 ?_
  refine nT ?_
  refine sR ?_
  refine pA M 8 0 5 (w64 x) ?_
  refine ZC M 9 (fun w M => c_settled x w M.laid) fun u2 M => ?_
  refine rV 3 ?_
  refine ZG M 0 5 (w64 (s5 x)) fun u3 M => ?_
  refine nT ?_
  refine sR ?_
  refine pN M 3 (.cells (av 6 (w64 (fun _ => 0))) 201) fun g2 u4 M => ?_
  refine nT ?_
  refine wp_seq ?_
  refine rg_tail M 2 (by kernel_rfl) (by kernel_rfl) ?_
  simp only [List.take_succ_cons, List.take_zero]
  refine kR 2 ?_
  refine kl_nil fun u5 M => ?_
  refine pl_copyB M (want_no rfl) (some 14) rfl 47 47 3 24 Tryz.underlying47 inz24 1 g2 6 201 (w64 (fun _ => 0)) rfl 0 g1 5 178 (w64 (s5 x)) rfl 0 6 6 0 5 5 5 rfl (by decide) (by decide) (fun _ _ => rfl) (w64 (p6 (s5 x))) (fun j _ => p6_fn (s5 x) j) (fun _ => by kernel_rfl) fun u6 M => ?_
  refine nT ?_
  refine sR ?_
  refine pN M 4 (.cells (av 16 (w8 (fun _ => 0))) 202) fun g3 u7 M => ?_
  refine nT ?_
  refine wp_seq ?_
  refine sq ?_
  refine wp_block ?_
  refine au_loop (fun j a w' => ∃ v1 : Nat → Value, a = (fm ([.agg (av 5 (w64 x)), .pointer (some ⟨g1, 0, none⟩), .string ⟨#[]⟩, .pointer (some ⟨g2, 0, none⟩), .pointer (some ⟨g3, 0, none⟩)] ++ vr v1 5 10 ++ [.int .i64 (j : Int)] ++ vr v1 16 24)) ∧ Mem ⟨w, []⟩ [⟨g1, .cells (av 5 (w64 (s5 x))) 178⟩, ⟨g2, .cells (av 6 (w64 (p6 (s5 x)))) 201⟩, ⟨g3, .cells (av 16 (w8 (tbs (s5 x) j))) 202⟩] w') 16 (exS M) ?_ ?_
  · intro j a u0 hj hI
    obtain ⟨v1, rfl, M⟩ := hI
    refine sR ?_
    refine ZT 16 ((j : Int) < 16) ?_
    refine nT ?_
    refine wp_seq ?_
    refine wp_cond_true (by kernel_rfl) ?_
    refine wp_skip ?_
    refine au_then ?_
    refine wp_seq ?_
    refine wp_block ?_
    refine sq ?_
    refine sR ?_
    refine rV 1 ?_
    refine ZI 19 (8 * (j : Int)) ((8 * j : Nat) : Int) ?_
    refine ZQ 20 .i64 (IntKind.wrap .i64 (((8 * j : Nat) : Int).tdiv 26)) (quo26 (8 * j) (by omega)) ?_
    refine rV 1 ?_
    refine nT ?_
    refine rg_tail M 16 (by kernel_rfl) (by kernel_rfl) ?_
    simp only [List.take_succ_cons, List.take_zero]
    refine kR 2 ?_
    refine eX 23 .i64 g2 ((8 * j / 26 : Nat)) 6 ?_
    refine eE M 24 1 ((8 * j / 26 : Nat)) ?_
    refine kR 1 ?_
    refine eI 26 (((8 * j / 26 : Nat) : Int) + 1) ((8 * j / 26 + 1 : Nat) : Int) ?_
    refine eX 27 .i64 g2 ((8 * j / 26 + 1 : Nat)) 6 ?_
    refine eE M 28 1 ((8 * j / 26 + 1 : Nat)) ?_
    refine kR 3 ?_
    refine eI 32 (8 * (j : Int)) ((8 * j : Nat) : Int) ?_
    refine eQ 33 .i64 (Int.tmod ((8 * j : Nat) : Int) 26) (rem26 (8 * j)) ?_
    refine kH 34 (.int .u64 (sr (uo (p6 (s5 x) (8 * j / 26)) (sl (p6 (s5 x) (8 * j / 26 + 1)) 26)) (8 * j % 26))) (run_shrU 24 3 _ _ rfl _ .i64 (8 * j % 26) (by kernel_rfl) (by kernel_rfl) (by omega)) ?_
    refine kR 1 ?_
    refine eX 36 .i64 g3 (j) 16 ?_
    refine kl_nil fun u8 M => ?_
    refine ZP8 M 2 j (cv .u8 (sr (uo (p6 (s5 x) (8 * j / 26)) (sl (p6 (s5 x) (8 * j / 26 + 1)) 26)) (8 * j % 26))) fun u9 M => ?_
    refine pl_nil ?_
    refine au_block ?_
    refine au_then ?_
    refine rg_lit ?_
    refine ZI 37 ((j : Int) + 1) ((j + 1 : Nat) : Int) ?_
    refine rV 1 ?_
    refine nT ?_
    exact exS M
  · intro a u0 hI
    obtain ⟨v1, rfl, M⟩ := hI
    refine sR ?_
    refine ZF 16 (16 < 16) ?_
    refine nT ?_
    refine wp_seq ?_
    refine wp_cond_false (by kernel_rfl) ?_
    refine wp_exit ?_
    refine au_then_exit ?_
    refine au_then_exit ?_
    refine au_block_exit ?_
    refine au_then ?_
    refine sR ?_
    refine rV 1 ?_
    refine pl_back M (want_no rfl) (some 39) rfl _ rfl 2 g3 16 16 (by kernel_rfl) _ rfl ((List.range 16).map (tbs (s5 x) 16)) 16 (sb_av 16 _ _) (by simp) (by rw [tbs_map]; exact tb_nn _) ?_
    rw [tbs_map]
    refine rV 1 ?_
    refine nT ?_
    refine wp_ret ?_
    exact b1 M


end Go.Proofs.YtenafinbaanicaaGreatDoor.Pol
namespace Go.Proofs.YtenafinbaanicaaGreatDoor.Pol
open Go.RowKit

/-- Products of one part with all parts, added at their places. -/
def tr (P a b : Nat → Int) (i : Nat) : Nat → (Nat → Int)
  | 0 => P
  | j + 1 => upd (tr P a b i j) (i + j) (ua (tr P a b i j (i + j)) (um (a i) (b j)))
def tp (n : Nat) (a b : Nat → Int) : Nat → (Nat → Int)
  | 0 => fun _ => 0
  | i + 1 => tr (tp n a b i) a b i n
def tlo (P : Nat → Int) : Nat → (Nat → Int)
  | 0 => P
  | j + 1 => upd (tlo P j) j (ua (tlo P j j) (um (P (5 + j)) 5))
def tmF (a b : Nat → Int) : Nat → Int := crF (tlo (tp 5 a b 5) 4)
theorem cp_fn (a : Nat → Int) (j : Nat) (hj : j < 5) : (if 0 ≤ j ∧ j < 0 + 5 then w64 a (0 + (j - 0)) else w64 (fun _ => 0) j) = w64 a j := by
  rw [if_pos (by omega), Nat.sub_zero, Nat.zero_add]

set_option maxRecDepth 100000 in
set_option maxHeartbeats 4000000 in
theorem c_times (x y : Nat → Int) (w : World) (hL : Laid w)  :
    Calls Tryz.prog 115 #[.agg (av 5 (w64 x)), .agg (av 5 (w64 y))] w fun r w' => r = .returned (.agg (av 5 (w64 (tmF x y)))) ∧ Below w.heap.size w w' := by
  go_enter Tryz.func115, Tryz.ntmps115
  have M := Mem.start hL
  refine sR ?_
  refine pN M 2 (.cells (av 5 (w64 x)) 178) fun g1 u1 M => ?_
  refine pN M 3 (.cells (av 5 (w64 y)) 178) fun g2 u2 M => ?_
  refine pN M 4 (.cells (av 5 (w64 (fun _ => 0))) 178) fun g3 u3 M => ?_
  refine nT ?_
  refine sR ?_
  refine pN M 5 (.cells (av 9 (w64 (fun _ => 0))) 198) fun g4 u4 M => ?_
  refine nT ?_
  refine wp_seq ?_
  refine sR ?_
  refine pA M 13 0 5 (w64 x) ?_
  refine rV 1 ?_
  refine nT ?_
  refine wp_block ?_
  refine au_loop (fun i a w' => ∃ v1 : Nat → Value, a = (fm ([.agg (av 5 (w64 x)), .agg (av 5 (w64 y)), .pointer (some ⟨g1, 0, none⟩), .pointer (some ⟨g2, 0, none⟩), .pointer (some ⟨g3, 0, none⟩), .pointer (some ⟨g4, 0, none⟩)] ++ vr v1 6 7 ++ [.agg (av 5 (w64 x)), .int .i64 (i : Int)] ++ vr v1 15 40)) ∧ Mem ⟨w, []⟩ [⟨g1, .cells (av 5 (w64 x)) 178⟩, ⟨g2, .cells (av 5 (w64 y)) 178⟩, ⟨g3, .cells (av 5 (w64 (fun _ => 0))) 178⟩, ⟨g4, .cells (av 9 (w64 (tp 5 x y i))) 198⟩] w') 5 (exS M) ?_ ?_
  · intro i a u0 hi hI
    obtain ⟨v1, rfl, M⟩ := hI
    refine sR ?_
    refine ZT 15 ((i : Int) < 5) ?_
    refine nT ?_
    refine wp_seq ?_
    refine wp_cond_true (by kernel_rfl) ?_
    refine wp_skip ?_
    refine au_then ?_
    refine wp_seq ?_
    refine wp_block ?_
    refine sR ?_
    refine rV 1 ?_
    refine pH 17 (.int .u64 (x (i))) (run_ixA 178 5 24 Tryz.underlying178 inz24 (fun _ => by kernel_rfl) _ _ rfl (w64 x) (by kernel_rfl) .i64 (i) (by kernel_rfl) (by omega) rfl) ?_
    refine rV 2 ?_
    refine nT ?_
    refine sR ?_
    refine pA M 18 1 5 (w64 y) ?_
    refine rV 1 ?_
    refine nT ?_
    refine wp_block ?_
    refine au_loop (fun j a w' => ∃ v2 : Nat → Value, a = (fm ([.agg (av 5 (w64 x)), .agg (av 5 (w64 y)), .pointer (some ⟨g1, 0, none⟩), .pointer (some ⟨g2, 0, none⟩), .pointer (some ⟨g3, 0, none⟩), .pointer (some ⟨g4, 0, none⟩), .int .i64 (i : Int), .int .u64 (x (i))] ++ vr v2 8 5 ++ [.agg (av 5 (w64 x)), .int .i64 (i : Int)] ++ vr v2 15 3 ++ [.agg (av 5 (w64 y)), .int .i64 (j : Int)] ++ vr v2 20 35)) ∧ Mem ⟨w, []⟩ [⟨g1, .cells (av 5 (w64 x)) 178⟩, ⟨g2, .cells (av 5 (w64 y)) 178⟩, ⟨g3, .cells (av 5 (w64 (fun _ => 0))) 178⟩, ⟨g4, .cells (av 9 (w64 (tr (tp 5 x y i) x y i j))) 198⟩] w') 5 (exS M) ?_ ?_
    · intro j a u0 hj hI
      obtain ⟨v2, rfl, M⟩ := hI
      refine sR ?_
      refine ZT 20 ((j : Int) < 5) ?_
      refine nT ?_
      refine wp_seq ?_
      refine wp_cond_true (by kernel_rfl) ?_
      refine wp_skip ?_
      refine au_then ?_
      refine wp_seq ?_
      refine wp_block ?_
      refine sR ?_
      refine rV 1 ?_
      refine pH 22 (.int .u64 (y (j))) (run_ixA 178 5 24 Tryz.underlying178 inz24 (fun _ => by kernel_rfl) _ _ rfl (w64 y) (by kernel_rfl) .i64 (j) (by kernel_rfl) (by omega) rfl) ?_
      refine rV 2 ?_
      refine nT ?_
      refine rg_lit ?_
      refine rV 2 ?_
      refine ZI 25 ((i : Int) + (j : Int)) ((i + j : Nat) : Int) ?_
      refine ZX 26 .i64 g4 ((i + j : Nat)) 9 ?_
      refine ZE M 27 3 ((i + j : Nat)) ?_
      refine rV 4 ?_
      refine ZX 32 .i64 g4 ((i + j : Nat)) 9 ?_
      refine ZP64 M 3 ((i + j : Nat)) (ua ((tr (tp 5 x y i) x y i j) ((i + j : Nat))) (um (x (i)) (y (j)))) fun u5 M => ?_
      refine pl_nil ?_
      refine au_block ?_
      refine au_then ?_
      refine rg_lit ?_
      refine ZI 33 ((j : Int) + 1) ((j + 1 : Nat) : Int) ?_
      refine rV 1 ?_
      refine nT ?_
      exact exS M
    · intro a u0 hI
      obtain ⟨v2, rfl, M⟩ := hI
      refine sR ?_
      refine ZF 20 (5 < 5) ?_
      refine nT ?_
      refine wp_seq ?_
      refine wp_cond_false (by kernel_rfl) ?_
      refine wp_exit ?_
      refine au_then_exit ?_
      refine au_then_exit ?_
      refine au_block_exit ?_
      refine au_block ?_
      refine au_then ?_
      refine rg_lit ?_
      refine ZI 34 ((i : Int) + 1) ((i + 1 : Nat) : Int) ?_
      refine rV 1 ?_
      refine nT ?_
      exact exS M
  · intro a u0 hI
    obtain ⟨v1, rfl, M⟩ := hI
    refine sR ?_
    refine ZF 15 (5 < 5) ?_
    refine nT ?_
    refine wp_seq ?_
    refine wp_cond_false (by kernel_rfl) ?_
    refine wp_exit ?_
    refine au_then_exit ?_
    refine au_then_exit ?_
    refine au_block_exit ?_
    refine au_then ?_
    refine sR ?_
    refine pN M 10 (.cells (av 5 (w64 (fun _ => 0))) 178) fun g5 u6 M => ?_
    refine nT ?_
    refine wp_seq ?_
    refine rg_tail M 2 (by kernel_rfl) (by kernel_rfl) ?_
    simp only [List.take_succ_cons, List.take_zero]
    refine kR 2 ?_
    refine kl_nil fun u7 M => ?_
    refine pl_copyB M (want_no rfl) (some 37) rfl 47 47 3 24 Tryz.underlying47 inz24 4 g5 5 178 (w64 (fun _ => 0)) rfl 3 g4 9 198 (w64 (tp 5 x y 5)) rfl 0 5 5 0 5 9 5 rfl (by decide) (by decide) (fun _ _ => rfl) (w64 (tp 5 x y 5)) (fun j hj => cp_fn (tp 5 x y 5) j hj) (fun _ => by kernel_rfl) fun u8 M => ?_
    refine nT ?_
    refine wp_seq ?_
    refine sq ?_
    refine wp_block ?_
    refine au_loop (fun j a w' => ∃ v3 : Nat → Value, a = (fm ([.agg (av 5 (w64 x)), .agg (av 5 (w64 y)), .pointer (some ⟨g1, 0, none⟩), .pointer (some ⟨g2, 0, none⟩), .pointer (some ⟨g3, 0, none⟩), .pointer (some ⟨g4, 0, none⟩)] ++ vr v3 6 4 ++ [.pointer (some ⟨g5, 0, none⟩)] ++ vr v3 11 2 ++ [.agg (av 5 (w64 x)), .int .i64 (5 : Int)] ++ vr v3 15 23 ++ [.slice (some ⟨g4, 5, none⟩) 4 4, .int .i64 4, .int .i64 (j : Int)] ++ vr v3 41 14)) ∧ Mem ⟨w, []⟩ [⟨g1, .cells (av 5 (w64 x)) 178⟩, ⟨g2, .cells (av 5 (w64 y)) 178⟩, ⟨g3, .cells (av 5 (w64 (fun _ => 0))) 178⟩, ⟨g4, .cells (av 9 (w64 (tp 5 x y 5))) 198⟩, ⟨g5, .cells (av 5 (w64 (tlo (tp 5 x y 5) j))) 178⟩] w') 4 (exS M) ?_ ?_
    · intro j a u0 hj hI
      obtain ⟨v3, rfl, M⟩ := hI
      refine sR ?_
      refine ZT 41 ((j : Int) < 4) ?_
      refine nT ?_
      refine wp_seq ?_
      refine wp_cond_true (by kernel_rfl) ?_
      refine wp_skip ?_
      refine au_then ?_
      refine wp_seq ?_
      refine wp_block ?_
      refine sR ?_
      refine rV 1 ?_
      refine pH 43 (.pointer (some ⟨g4, (5 + j), none⟩)) (run_ixL 47 24 Tryz.underlying47 inz24 _ _ rfl g4 5 4 4 (by kernel_rfl) .i64 j (by kernel_rfl) hj) ?_
      refine ZE M 44 3 (5 + j) ?_
      refine rV 2 ?_
      refine nT ?_
      refine rg_lit ?_
      refine rV 1 ?_
      refine ZX 46 .i64 g5 (j) 5 ?_
      refine ZE M 47 4 j ?_
      refine rV 3 ?_
      refine ZX 51 .i64 g5 (j) 5 ?_
      refine ZP64 M 4 j (ua ((tlo (tp 5 x y 5) j) j) (um ((tp 5 x y 5) (5 + j)) 5)) fun u9 M => ?_
      refine pl_nil ?_
      refine au_block ?_
      refine au_then ?_
      refine rg_lit ?_
      refine ZI 52 ((j : Int) + 1) ((j + 1 : Nat) : Int) ?_
      refine rV 1 ?_
      refine nT ?_
      exact exS M
    · intro a u0 hI
      obtain ⟨v3, rfl, M⟩ := hI
      refine sR ?_
      refine ZF 41 (4 < 4) ?_
      refine nT ?_
      refine wp_seq ?_
      refine wp_cond_false (by kernel_rfl) ?_
      refine wp_exit ?_
      refine au_then_exit ?_
      refine au_then_exit ?_
      refine au_block_exit ?_
      refine au_then ?_
      refine sR ?_
      refine pA M 53 4 5 (w64 (tlo (tp 5 x y 5) 4)) ?_
      refine ZC M 54 (fun w M => c_carried (tlo (tp 5 x y 5) 4) w M.laid) fun u10 M => ?_
      refine ZG M 2 5 (w64 (crF (tlo (tp 5 x y 5) 4))) fun u11 M => ?_
      refine nT ?_
      refine wp_ret ?_
      exact bc Tryz.results115 M 2 5 (w64 (crF (tlo (tp 5 x y 5) 4))) ⟨rfl, below_grown M.old⟩


end Go.Proofs.YtenafinbaanicaaGreatDoor.Pol
namespace Go.Proofs.YtenafinbaanicaaGreatDoor.Pol
open Go.RowKit

theorem st_ge (m : Int) (sh : Nat) (a : Nat → Int) : ∀ j i, j ≤ i → st m sh a j i = a i
  | 0, _, _ => rfl
  | j + 1, i, h => by
    unfold st upd
    rw [if_neg (by omega), st_ge m sh a j i (by omega)]
theorem st_cell (m : Int) (sh : Nat) (a : Nat → Int) (j : Nat) : w64 (st m sh a j) j = .int .u64 (a j) := by
  unfold w64
  rw [st_ge m sh a j j (Nat.le_refl _)]
def dch (a : Nat → Int) : Nat → Int := st 255 8 a 18
def dtop (a : Nat → Int) : Int := uo (uo (sr (dch a 16) 2) (sl (dch a 17) 6)) (sl (cy 8 a 18) 14)
def d0 (a : Nat → Int) : Nat → Int := upd (upd (dch a) 16 (un (dch a 16) 3)) 17 0
def d1 (a : Nat → Int) : Nat → Int := upd (d0 a) 0 (ua (d0 a 0) (um 5 (dtop a)))
def dr (a : Nat → Int) : Nat → (Nat → Int)
  | 0 => a
  | j + 1 => d1 (dr a j)
def dcF (a : Nat → Int) : Nat → Int := st 255 8 (dr a 3) 18

set_option maxRecDepth 100000 in
set_option maxHeartbeats 4000000 in
theorem d_carry (x : Nat → Int) (w : World) (hL : Laid w)  :
    Calls Tryz.prog 102 #[.agg (av 18 (w64 x))] w fun r w' => r = .returned (.agg (av 18 (w64 (dcF x)))) ∧ Below w.heap.size w w' := by
  go_enter Tryz.func102, Tryz.ntmps102
  have M := Mem.start hL
  refine sR ?_
  refine pN M 1 (.cells (av 18 (w64 x)) 160) fun g1 u1 M => ?_
  refine pN M 2 (.cells (av 18 (w64 (fun _ => 0))) 160) fun g2 u2 M => ?_
  refine nT ?_
  refine wp_seq ?_
  refine sq ?_
  refine wp_block ?_
  refine au_loop (fun i a w' => ∃ v1 : Nat → Value, a = (fm ([.agg (av 18 (w64 x)), .pointer (some ⟨g1, 0, none⟩), .pointer (some ⟨g2, 0, none⟩), .int .i64 (i : Int)] ++ vr v1 4 63)) ∧ Mem ⟨w, []⟩ [⟨g1, .cells (av 18 (w64 (dr x i))) 160⟩, ⟨g2, .cells (av 18 (w64 (fun _ => 0))) 160⟩] w') 3 (exS M) ?_ ?_
  · intro i a u0 hi hI
    obtain ⟨v1, rfl, M⟩ := hI
    refine wp_seq ?_
    refine sR ?_
    refine rV 1 ?_
    refine ZT 12 ((i : Int) < 3) ?_
    refine nT ?_
    refine wp_cond_true (by kernel_rfl) ?_
    refine wp_skip ?_
    refine au_then ?_
    refine wp_seq ?_
    refine wp_block ?_
    refine sq ?_
    refine wp_seq ?_
    refine sq ?_
    refine wp_block ?_
    refine au_loop (fun j a w' => ∃ v2 : Nat → Value, a = (fm ([.agg (av 18 (w64 x)), .pointer (some ⟨g1, 0, none⟩), .pointer (some ⟨g2, 0, none⟩), .int .i64 (i : Int), .int .u64 (cy 8 (dr x i) j), .int .i64 (j : Int)] ++ vr v2 6 61)) ∧ Mem ⟨w, []⟩ [⟨g1, .cells (av 18 (w64 (st 255 8 (dr x i) j))) 160⟩, ⟨g2, .cells (av 18 (w64 (fun _ => 0))) 160⟩] w') 18 (exS M) ?_ ?_
    · intro j a u0 hj hI
      obtain ⟨v2, rfl, M⟩ := hI
      refine wp_seq ?_
      refine sR ?_
      refine rV 1 ?_
      refine ZT 16 ((j : Int) < 18) ?_
      refine nT ?_
      refine wp_cond_true (by kernel_rfl) ?_
      refine wp_skip ?_
      refine au_then ?_
      refine wp_seq ?_
      refine wp_block ?_
      refine sR ?_
      refine rV 1 ?_
      refine ZX 20 .i64 g1 (j) 18 ?_
      refine pE M 21 g1 j (.int .u64 ((dr x i) j)) (fun w M => M.cell 0 rfl (by omega) (st_cell 255 8 (dr x i) j)) ?_
      refine rV 3 ?_
      refine nT ?_
      refine sR ?_
      refine rV 3 ?_
      refine ZX 27 .i64 g1 (j) 18 ?_
      refine ZP64 M 0 j (un (ua ((dr x i) j) (cy 8 (dr x i) j)) 255) fun u3 M => ?_
      refine nT ?_
      refine rg_lit ?_
      refine rV 3 ?_
      refine pl_nil ?_
      refine au_block ?_
      refine au_then ?_
      refine rg_lit ?_
      refine rV 1 ?_
      refine ZI 18 ((j : Int) + 1) ((j + 1 : Nat) : Int) ?_
      refine rV 1 ?_
      refine nT ?_
      exact exS M
    · intro a u0 hI
      obtain ⟨v2, rfl, M⟩ := hI
      refine wp_seq ?_
      refine sR ?_
      refine rV 1 ?_
      refine ZF 16 (18 < 18) ?_
      refine nT ?_
      refine wp_cond_false (by kernel_rfl) ?_
      refine wp_exit ?_
      refine au_then_exit ?_
      refine au_then_exit ?_
      refine au_block_exit ?_
      refine au_then ?_
      refine sR ?_
      refine rV 1 ?_
      refine ZE M 31 0 16 ?_
      refine rV 2 ?_
      refine ZE M 34 0 17 ?_
      refine rV 6 ?_
      refine nT ?_
      refine sR ?_
      refine rV 1 ?_
      refine ZE M 41 0 16 ?_
      refine rV 2 ?_
      refine ZP64 M 0 16 (un ((dch (dr x i)) 16) 3) fun u4 M => ?_
      refine nT ?_
      refine sR ?_
      refine rV 1 ?_
      refine ZP64 M 0 17 0 fun u5 M => ?_
      refine nT ?_
      refine rg_lit ?_
      refine rV 1 ?_
      refine ZE M 46 0 0 ?_
      refine rV 4 ?_
      refine ZP64 M 0 0 (ua ((d0 (dr x i)) 0) (um 5 (dtop (dr x i)))) fun u6 M => ?_
      refine pl_nil ?_
      refine au_block ?_
      refine au_then ?_
      refine rg_lit ?_
      refine rV 1 ?_
      refine ZI 14 ((i : Int) + 1) ((i + 1 : Nat) : Int) ?_
      refine rV 1 ?_
      refine nT ?_
      exact exS M
  · intro a u0 hI
    obtain ⟨v1, rfl, M⟩ := hI
    refine wp_seq ?_
    refine sR ?_
    refine rV 1 ?_
    refine ZF 12 (3 < 3) ?_
    refine nT ?_
    refine wp_cond_false (by kernel_rfl) ?_
    refine wp_exit ?_
    refine au_then_exit ?_
    refine au_then_exit ?_
    refine au_block_exit ?_
    refine au_then ?_
    refine sq ?_
    refine wp_seq ?_
    refine sq ?_
    refine wp_block ?_
    refine au_loop (fun j a w' => ∃ v3 : Nat → Value, a = (fm ([.agg (av 18 (w64 x)), .pointer (some ⟨g1, 0, none⟩), .pointer (some ⟨g2, 0, none⟩), .int .i64 (3 : Int)] ++ vr v3 4 4 ++ [.int .u64 (cy 8 (dr x 3) j), .int .i64 (j : Int)] ++ vr v3 10 57)) ∧ Mem ⟨w, []⟩ [⟨g1, .cells (av 18 (w64 (st 255 8 (dr x 3) j))) 160⟩, ⟨g2, .cells (av 18 (w64 (fun _ => 0))) 160⟩] w') 18 (exS M) ?_ ?_
    · intro j a u0 hj hI
      obtain ⟨v3, rfl, M⟩ := hI
      refine wp_seq ?_
      refine sR ?_
      refine rV 1 ?_
      refine ZT 52 ((j : Int) < 18) ?_
      refine nT ?_
      refine wp_cond_true (by kernel_rfl) ?_
      refine wp_skip ?_
      refine au_then ?_
      refine wp_seq ?_
      refine wp_block ?_
      refine sR ?_
      refine rV 1 ?_
      refine ZX 56 .i64 g1 (j) 18 ?_
      refine pE M 57 g1 j (.int .u64 ((dr x 3) j)) (fun w M => M.cell 0 rfl (by omega) (st_cell 255 8 (dr x 3) j)) ?_
      refine rV 3 ?_
      refine nT ?_
      refine sR ?_
      refine rV 3 ?_
      refine ZX 63 .i64 g1 (j) 18 ?_
      refine ZP64 M 0 j (un (ua ((dr x 3) j) (cy 8 (dr x 3) j)) 255) fun u7 M => ?_
      refine nT ?_
      refine rg_lit ?_
      refine rV 3 ?_
      refine pl_nil ?_
      refine au_block ?_
      refine au_then ?_
      refine rg_lit ?_
      refine rV 1 ?_
      refine ZI 54 ((j : Int) + 1) ((j + 1 : Nat) : Int) ?_
      refine rV 1 ?_
      refine nT ?_
      exact exS M
    · intro a u0 hI
      obtain ⟨v3, rfl, M⟩ := hI
      refine wp_seq ?_
      refine sR ?_
      refine rV 1 ?_
      refine ZF 52 (18 < 18) ?_
      refine nT ?_
      refine wp_cond_false (by kernel_rfl) ?_
      refine wp_exit ?_
      refine au_then_exit ?_
      refine au_then_exit ?_
      refine au_block_exit ?_
      refine au_then ?_
      refine sR ?_
      refine pA M 66 0 18 (w64 (st 255 8 (dr x 3) 18)) ?_
      refine ZG M 1 18 (w64 (st 255 8 (dr x 3) 18)) fun u8 M => ?_
      refine nT ?_
      refine wp_ret ?_
      exact bc Tryz.results102 M 1 18 (w64 (st 255 8 (dr x 3) 18)) ⟨rfl, below_grown M.old⟩

def dT (a b : Nat → Int) : Nat → Int := st 255 8 (tp 18 a b 18) 36
def dlo (T : Nat → Int) : Nat → (Nat → Int)
  | 0 => fun _ => 0
  | j + 1 => upd (dlo T j) j (T j)
def dhi (T : Nat → Int) : Nat → (Nat → Int)
  | 0 => fun _ => 0
  | j + 1 => upd (dhi T j) j (uo (sr (T (16 + j)) 2) (un (sl (T (17 + j)) 6) 255))
def dl2 (T : Nat → Int) : Nat → Int := upd (dlo T 17) 16 (un (dlo T 17 16) 3)
def dl3 (T : Nat → Int) : Nat → (Nat → Int)
  | 0 => dl2 T
  | j + 1 => upd (dl3 T j) j (ua (dl3 T j j) (um 5 (dhi T 17 j)))
def dtF (a b : Nat → Int) : Nat → Int := dcF (dl3 (dT a b) 18)

set_option maxRecDepth 100000 in
set_option maxHeartbeats 4000000 in
theorem d_times (x y : Nat → Int) (w : World) (hL : Laid w)  :
    Calls Tryz.prog 101 #[.agg (av 18 (w64 x)), .agg (av 18 (w64 y))] w fun r w' => r = .returned (.agg (av 18 (w64 (dtF x y)))) ∧ Below w.heap.size w w' := by
  go_enter Tryz.func101, Tryz.ntmps101
  have M := Mem.start hL
  refine sR ?_
  refine pN M 2 (.cells (av 18 (w64 x)) 160) fun g1 u1 M => ?_
  refine pN M 3 (.cells (av 18 (w64 y)) 160) fun g2 u2 M => ?_
  refine pN M 4 (.cells (av 18 (w64 (fun _ => 0))) 160) fun g3 u3 M => ?_
  refine nT ?_
  refine sR ?_
  refine pN M 5 (.cells (av 36 (w64 (fun _ => 0))) 190) fun g4 u4 M => ?_
  refine nT ?_
  refine wp_seq ?_
  refine sq ?_
  refine wp_block ?_
  refine au_loop (fun i a w' => ∃ v1 : Nat → Value, a = (fm ([.agg (av 18 (w64 x)), .agg (av 18 (w64 y)), .pointer (some ⟨g1, 0, none⟩), .pointer (some ⟨g2, 0, none⟩), .pointer (some ⟨g3, 0, none⟩), .pointer (some ⟨g4, 0, none⟩), .int .i64 (i : Int)] ++ vr v1 7 91)) ∧ Mem ⟨w, []⟩ [⟨g1, .cells (av 18 (w64 x)) 160⟩, ⟨g2, .cells (av 18 (w64 y)) 160⟩, ⟨g3, .cells (av 18 (w64 (fun _ => 0))) 160⟩, ⟨g4, .cells (av 36 (w64 (tp 18 x y i))) 190⟩] w') 18 (exS M) ?_ ?_
  · intro i a u0 hi hI
    obtain ⟨v1, rfl, M⟩ := hI
    refine wp_seq ?_
    refine sR ?_
    refine rV 1 ?_
    refine ZT 16 ((i : Int) < 18) ?_
    refine nT ?_
    refine wp_cond_true (by kernel_rfl) ?_
    refine wp_skip ?_
    refine au_then ?_
    refine wp_seq ?_
    refine wp_block ?_
    refine sq ?_
    refine wp_block ?_
    refine au_loop (fun j a w' => ∃ v2 : Nat → Value, a = (fm ([.agg (av 18 (w64 x)), .agg (av 18 (w64 y)), .pointer (some ⟨g1, 0, none⟩), .pointer (some ⟨g2, 0, none⟩), .pointer (some ⟨g3, 0, none⟩), .pointer (some ⟨g4, 0, none⟩), .int .i64 (i : Int), .int .i64 (j : Int)] ++ vr v2 8 90)) ∧ Mem ⟨w, []⟩ [⟨g1, .cells (av 18 (w64 x)) 160⟩, ⟨g2, .cells (av 18 (w64 y)) 160⟩, ⟨g3, .cells (av 18 (w64 (fun _ => 0))) 160⟩, ⟨g4, .cells (av 36 (w64 (tr (tp 18 x y i) x y i j))) 190⟩] w') 18 (exS M) ?_ ?_
    · intro j a u0 hj hI
      obtain ⟨v2, rfl, M⟩ := hI
      refine wp_seq ?_
      refine sR ?_
      refine rV 1 ?_
      refine ZT 20 ((j : Int) < 18) ?_
      refine nT ?_
      refine wp_cond_true (by kernel_rfl) ?_
      refine wp_skip ?_
      refine au_then ?_
      refine wp_seq ?_
      refine wp_block ?_
      refine rg_tail M 17 (by kernel_rfl) (by kernel_rfl) ?_
      simp only [List.take_succ_cons, List.take_zero]
      refine kR 2 ?_
      refine eI 25 ((i : Int) + (j : Int)) ((i + j : Nat) : Int) ?_
      refine kR 2 ?_
      refine eI 28 ((i : Int) + (j : Int)) ((i + j : Nat) : Int) ?_
      refine eX 29 .i64 g4 ((i + j : Nat)) 36 ?_
      refine eE M 30 3 ((i + j : Nat)) ?_
      refine kR 1 ?_
      refine eX 32 .i64 g1 (i) 18 ?_
      refine eE M 33 0 i ?_
      refine kR 1 ?_
      refine eX 35 .i64 g2 (j) 18 ?_
      refine eE M 36 1 j ?_
      refine kR 2 ?_
      refine eX 39 .i64 g4 ((i + j : Nat)) 36 ?_
      refine kl_nil fun u5 M => ?_
      refine ZP64 M 3 ((i + j : Nat)) (ua ((tr (tp 18 x y i) x y i j) ((i + j : Nat))) (um (x i) (y j))) fun u6 M => ?_
      refine pl_nil ?_
      refine au_block ?_
      refine au_then ?_
      refine rg_lit ?_
      refine rV 1 ?_
      refine ZI 22 ((j : Int) + 1) ((j + 1 : Nat) : Int) ?_
      refine rV 1 ?_
      refine nT ?_
      exact exS M
    · intro a u0 hI
      obtain ⟨v2, rfl, M⟩ := hI
      refine wp_seq ?_
      refine sR ?_
      refine rV 1 ?_
      refine ZF 20 (18 < 18) ?_
      refine nT ?_
      refine wp_cond_false (by kernel_rfl) ?_
      refine wp_exit ?_
      refine au_then_exit ?_
      refine au_then_exit ?_
      refine au_block_exit ?_
      refine au_block ?_
      refine au_then ?_
      refine rg_lit ?_
      refine rV 1 ?_
      refine ZI 18 ((i : Int) + 1) ((i + 1 : Nat) : Int) ?_
      refine rV 1 ?_
      refine nT ?_
      exact exS M
  · intro a u0 hI
    obtain ⟨v1, rfl, M⟩ := hI
    refine wp_seq ?_
    refine sR ?_
    refine rV 1 ?_
    refine ZF 16 (18 < 18) ?_
    refine nT ?_
    refine wp_cond_false (by kernel_rfl) ?_
    refine wp_exit ?_
    refine au_then_exit ?_
    refine au_then_exit ?_
    refine au_block_exit ?_
    refine au_then ?_
    refine sq ?_
    refine wp_seq ?_
    refine sq ?_
    refine wp_block ?_
    refine au_loop (fun j a w' => ∃ v3 : Nat → Value, a = (fm ([.agg (av 18 (w64 x)), .agg (av 18 (w64 y)), .pointer (some ⟨g1, 0, none⟩), .pointer (some ⟨g2, 0, none⟩), .pointer (some ⟨g3, 0, none⟩), .pointer (some ⟨g4, 0, none⟩), .int .i64 (18 : Int), v3 7, .int .u64 (cy 8 (tp 18 x y 18) j), .int .i64 (j : Int)] ++ vr v3 10 88)) ∧ Mem ⟨w, []⟩ [⟨g1, .cells (av 18 (w64 x)) 160⟩, ⟨g2, .cells (av 18 (w64 y)) 160⟩, ⟨g3, .cells (av 18 (w64 (fun _ => 0))) 160⟩, ⟨g4, .cells (av 36 (w64 (st 255 8 (tp 18 x y 18) j))) 190⟩] w') 36 (exS M) ?_ ?_
    · intro j a u0 hj hI
      obtain ⟨v3, rfl, M⟩ := hI
      refine wp_seq ?_
      refine sR ?_
      refine rV 1 ?_
      refine ZT 41 ((j : Int) < 36) ?_
      refine nT ?_
      refine wp_cond_true (by kernel_rfl) ?_
      refine wp_skip ?_
      refine au_then ?_
      refine wp_seq ?_
      refine wp_block ?_
      refine sR ?_
      refine rV 1 ?_
      refine ZX 45 .i64 g4 (j) 36 ?_
      refine pE M 46 g4 j (.int .u64 ((tp 18 x y 18) j)) (fun w M => M.cell 3 rfl (by omega) (st_cell 255 8 (tp 18 x y 18) j)) ?_
      refine rV 3 ?_
      refine nT ?_
      refine sR ?_
      refine rV 3 ?_
      refine ZX 52 .i64 g4 (j) 36 ?_
      refine ZP64 M 3 j (un (ua ((tp 18 x y 18) j) (cy 8 (tp 18 x y 18) j)) 255) fun u7 M => ?_
      refine nT ?_
      refine rg_lit ?_
      refine rV 3 ?_
      refine pl_nil ?_
      refine au_block ?_
      refine au_then ?_
      refine rg_lit ?_
      refine rV 1 ?_
      refine ZI 43 ((j : Int) + 1) ((j + 1 : Nat) : Int) ?_
      refine rV 1 ?_
      refine nT ?_
      exact exS M
    · intro a u0 hI
      obtain ⟨v3, rfl, M⟩ := hI
      refine wp_seq ?_
      refine sR ?_
      refine rV 1 ?_
      refine ZF 41 (36 < 36) ?_
      refine nT ?_
      refine wp_cond_false (by kernel_rfl) ?_
      refine wp_exit ?_
      refine au_then_exit ?_
      refine au_then_exit ?_
      refine au_block_exit ?_
      refine au_then ?_
      refine sR ?_
      refine pN M 11 (.cells (av 18 (w64 (fun _ => 0))) 160) fun g5 u8 M => ?_
      refine pN M 12 (.cells (av 18 (w64 (fun _ => 0))) 160) fun g6 u9 M => ?_
      refine nT ?_
      refine wp_seq ?_
      refine sq ?_
      refine wp_block ?_
      refine au_loop (fun j a w' => ∃ v4 : Nat → Value, a = (fm ([.agg (av 18 (w64 x)), .agg (av 18 (w64 y)), .pointer (some ⟨g1, 0, none⟩), .pointer (some ⟨g2, 0, none⟩), .pointer (some ⟨g3, 0, none⟩), .pointer (some ⟨g4, 0, none⟩), .int .i64 (18 : Int), v4 7, .int .u64 (cy 8 (tp 18 x y 18) 36), .int .i64 (36 : Int), v4 10, .pointer (some ⟨g5, 0, none⟩), .pointer (some ⟨g6, 0, none⟩), .int .i64 (j : Int)] ++ vr v4 14 84)) ∧ Mem ⟨w, []⟩ [⟨g1, .cells (av 18 (w64 x)) 160⟩, ⟨g2, .cells (av 18 (w64 y)) 160⟩, ⟨g3, .cells (av 18 (w64 (fun _ => 0))) 160⟩, ⟨g4, .cells (av 36 (w64 (dT x y))) 190⟩, ⟨g5, .cells (av 18 (w64 (dlo (dT x y) j))) 160⟩, ⟨g6, .cells (av 18 (w64 (dhi (dT x y) j))) 160⟩] w') 17 (exS M) ?_ ?_
      · intro j a u0 hj hI
        obtain ⟨v4, rfl, M⟩ := hI
        refine wp_seq ?_
        refine sR ?_
        refine rV 1 ?_
        refine ZT 56 ((j : Int) < 17) ?_
        refine nT ?_
        refine wp_cond_true (by kernel_rfl) ?_
        refine wp_skip ?_
        refine au_then ?_
        refine wp_seq ?_
        refine wp_block ?_
        refine sR ?_
        refine rV 2 ?_
        refine ZX 61 .i64 g4 (j) 36 ?_
        refine ZE M 62 3 j ?_
        refine ZX 63 .i64 g5 (j) 18 ?_
        refine ZP64 M 4 j ((dT x y) j) fun u10 M => ?_
        refine nT ?_
        refine rg_tail M 14 (by kernel_rfl) (by kernel_rfl) ?_
        simp only [List.take_succ_cons, List.take_zero]
        refine kR 2 ?_
        refine eI 66 (16 + (j : Int)) ((16 + j : Nat) : Int) ?_
        refine eX 67 .i64 g4 ((16 + j : Nat)) 36 ?_
        refine eE M 68 3 ((16 + j : Nat)) ?_
        refine kR 2 ?_
        refine eI 71 (17 + (j : Int)) ((17 + j : Nat) : Int) ?_
        refine eX 72 .i64 g4 ((17 + j : Nat)) 36 ?_
        refine eE M 73 3 ((17 + j : Nat)) ?_
        refine kR 3 ?_
        refine eX 77 .i64 g6 (j) 18 ?_
        refine kl_nil fun u11 M => ?_
        refine ZP64 M 5 j (uo (sr ((dT x y) ((16 + j : Nat))) 2) (un (sl ((dT x y) ((17 + j : Nat))) 6) 255)) fun u12 M => ?_
        refine pl_nil ?_
        refine au_block ?_
        refine au_then ?_
        refine rg_lit ?_
        refine rV 1 ?_
        refine ZI 58 ((j : Int) + 1) ((j + 1 : Nat) : Int) ?_
        refine rV 1 ?_
        refine nT ?_
        exact exS M
      · intro a u0 hI
        obtain ⟨v4, rfl, M⟩ := hI
        refine wp_seq ?_
        refine sR ?_
        refine rV 1 ?_
        refine ZF 56 (17 < 17) ?_
        refine nT ?_
        refine wp_cond_false (by kernel_rfl) ?_
        refine wp_exit ?_
        refine au_then_exit ?_
        refine au_then_exit ?_
        refine au_block_exit ?_
        refine au_then ?_
        refine sR ?_
        refine rV 1 ?_
        refine ZE M 79 4 16 ?_
        refine rV 2 ?_
        refine ZP64 M 4 16 (un ((dlo (dT x y) 17) 16) 3) fun u13 M => ?_
        refine nT ?_
        refine wp_seq ?_
        refine sq ?_
        refine wp_block ?_
        refine au_loop (fun j a w' => ∃ v5 : Nat → Value, a = (fm ([.agg (av 18 (w64 x)), .agg (av 18 (w64 y)), .pointer (some ⟨g1, 0, none⟩), .pointer (some ⟨g2, 0, none⟩), .pointer (some ⟨g3, 0, none⟩), .pointer (some ⟨g4, 0, none⟩), .int .i64 (18 : Int), v5 7, .int .u64 (cy 8 (tp 18 x y 18) 36), .int .i64 (36 : Int), v5 10, .pointer (some ⟨g5, 0, none⟩), .pointer (some ⟨g6, 0, none⟩), .int .i64 (17 : Int), .int .i64 (j : Int)] ++ vr v5 15 83)) ∧ Mem ⟨w, []⟩ [⟨g1, .cells (av 18 (w64 x)) 160⟩, ⟨g2, .cells (av 18 (w64 y)) 160⟩, ⟨g3, .cells (av 18 (w64 (fun _ => 0))) 160⟩, ⟨g4, .cells (av 36 (w64 (dT x y))) 190⟩, ⟨g5, .cells (av 18 (w64 (dl3 (dT x y) j))) 160⟩, ⟨g6, .cells (av 18 (w64 (dhi (dT x y) 17))) 160⟩] w') 18 (exS M) ?_ ?_
        · intro j a u0 hj hI
          obtain ⟨v5, rfl, M⟩ := hI
          refine wp_seq ?_
          refine sR ?_
          refine rV 1 ?_
          refine ZT 83 ((j : Int) < 18) ?_
          refine nT ?_
          refine wp_cond_true (by kernel_rfl) ?_
          refine wp_skip ?_
          refine au_then ?_
          refine wp_seq ?_
          refine wp_block ?_
          refine rg_tail M 10 (by kernel_rfl) (by kernel_rfl) ?_
          simp only [List.take_succ_cons, List.take_zero]
          refine kR 2 ?_
          refine eX 88 .i64 g5 (j) 18 ?_
          refine eE M 89 4 j ?_
          refine kR 1 ?_
          refine eX 91 .i64 g6 (j) 18 ?_
          refine eE M 92 5 j ?_
          refine kR 2 ?_
          refine eX 95 .i64 g5 (j) 18 ?_
          refine kl_nil fun u14 M => ?_
          refine ZP64 M 4 j (ua ((dl3 (dT x y) j) j) (um 5 ((dhi (dT x y) 17) j))) fun u15 M => ?_
          refine pl_nil ?_
          refine au_block ?_
          refine au_then ?_
          refine rg_lit ?_
          refine rV 1 ?_
          refine ZI 85 ((j : Int) + 1) ((j + 1 : Nat) : Int) ?_
          refine rV 1 ?_
          refine nT ?_
          exact exS M
        · intro a u0 hI
          obtain ⟨v5, rfl, M⟩ := hI
          refine wp_seq ?_
          refine sR ?_
          refine rV 1 ?_
          refine ZF 83 (18 < 18) ?_
          refine nT ?_
          refine wp_cond_false (by kernel_rfl) ?_
          refine wp_exit ?_
          refine au_then_exit ?_
          refine au_then_exit ?_
          refine au_block_exit ?_
          refine au_then ?_
          refine sR ?_
          refine pA M 96 4 18 (w64 (dl3 (dT x y) 18)) ?_
          refine ZC M 97 (fun w M => d_carry (dl3 (dT x y) 18) w M.laid) fun u16 M => ?_
          refine ZG M 2 18 (w64 (dcF (dl3 (dT x y) 18))) fun u17 M => ?_
          refine nT ?_
          refine wp_ret ?_
          exact bc Tryz.results101 M 2 18 (w64 (dcF (dl3 (dT x y) 18))) ⟨rfl, below_grown M.old⟩

def dg (a : Nat → Int) : Nat → Int := upd (dcF a) 0 (ua (dcF a 0) 5)
def dG (a : Nat → Int) : Nat → Int := st 255 8 (dg a) 18
def dwF (a : Nat → Int) : Nat → Int := if 4 ≤ dG a 16 then upd (dG a) 16 (un (dG a 16) 3) else dcF a

set_option maxRecDepth 100000 in
set_option maxHeartbeats 4000000 in
theorem d_wholeA (x : Nat → Int) (h : 4 ≤ dG x 16) (w : World) (hL : Laid w)  :
    Calls Tryz.prog 103 #[.agg (av 18 (w64 x))] w fun r w' => r = .returned (.agg (av 18 (w64 (upd (dG x) 16 (un ((dG x) 16) 3))))) ∧ Below w.heap.size w w' := by
  go_enter Tryz.func103, Tryz.ntmps103
  have M := Mem.start hL
  refine sR ?_
  refine pN M 1 (.cells (av 18 (w64 x)) 160) fun g1 u1 M => ?_
  refine pN M 2 (.cells (av 18 (w64 (fun _ => 0))) 160) fun g2 u2 M => ?_
  refine nT ?_
  refine sR ?_
  refine pA M 7 0 18 (w64 x) ?_
  refine ZC M 8 (fun w M => d_carry x w M.laid) fun u3 M => ?_
  refine ZG M 0 18 (w64 (dcF x)) fun u4 M => ?_
  refine nT ?_
  refine sR ?_
  refine pA M 9 0 18 (w64 (dcF x)) ?_
  refine pN M 3 (.cells (av 18 (w64 (fun _ => 0))) 160) fun g3 u5 M => ?_
  refine ZG M 2 18 (w64 (dcF x)) fun u6 M => ?_
  refine nT ?_
  refine sR ?_
  refine rV 1 ?_
  refine ZE M 11 2 0 ?_
  refine rV 2 ?_
  refine ZP64 M 2 0 (ua ((dcF x) 0) 5) fun u7 M => ?_
  refine nT ?_
  refine sq ?_
  refine wp_seq ?_
  refine sq ?_
  refine wp_block ?_
  refine au_loop (fun j a w' => ∃ v1 : Nat → Value, a = (fm ([.agg (av 18 (w64 x)), .pointer (some ⟨g1, 0, none⟩), .pointer (some ⟨g2, 0, none⟩), .pointer (some ⟨g3, 0, none⟩), .int .u64 (cy 8 (dg x) j), .int .i64 (j : Int)] ++ vr v1 6 32)) ∧ Mem ⟨w, []⟩ [⟨g1, .cells (av 18 (w64 (dcF x))) 160⟩, ⟨g2, .cells (av 18 (w64 (fun _ => 0))) 160⟩, ⟨g3, .cells (av 18 (w64 (st 255 8 (dg x) j))) 160⟩] w') 18 (exS M) ?_ ?_
  · intro j a u0 hj hI
    obtain ⟨v1, rfl, M⟩ := hI
    refine wp_seq ?_
    refine sR ?_
    refine rV 1 ?_
    refine ZT 15 ((j : Int) < 18) ?_
    refine nT ?_
    refine wp_cond_true (by kernel_rfl) ?_
    refine wp_skip ?_
    refine au_then ?_
    refine wp_seq ?_
    refine wp_block ?_
    refine sR ?_
    refine rV 1 ?_
    refine ZX 19 .i64 g3 (j) 18 ?_
    refine pE M 20 g3 j (.int .u64 ((dg x) j)) (fun w M => M.cell 2 rfl (by omega) (st_cell 255 8 (dg x) j)) ?_
    refine rV 3 ?_
    refine nT ?_
    refine sR ?_
    refine rV 3 ?_
    refine ZX 26 .i64 g3 (j) 18 ?_
    refine ZP64 M 2 j (un (ua ((dg x) j) (cy 8 (dg x) j)) 255) fun u8 M => ?_
    refine nT ?_
    refine rg_lit ?_
    refine rV 3 ?_
    refine pl_nil ?_
    refine au_block ?_
    refine au_then ?_
    refine rg_lit ?_
    refine rV 1 ?_
    refine ZI 17 ((j : Int) + 1) ((j + 1 : Nat) : Int) ?_
    refine rV 1 ?_
    refine nT ?_
    exact exS M
  · intro a u0 hI
    obtain ⟨v1, rfl, M⟩ := hI
    refine wp_seq ?_
    refine sR ?_
    refine rV 1 ?_
    refine ZF 15 (18 < 18) ?_
    refine nT ?_
    refine wp_cond_false (by kernel_rfl) ?_
    refine wp_exit ?_
    refine au_then_exit ?_
    refine au_then_exit ?_
    refine au_block_exit ?_
    refine au_then ?_
    refine wp_seq ?_
    refine sR ?_
    refine rV 1 ?_
    refine ZE M 30 2 16 ?_
    refine wT 31 h ?_
    refine nT ?_
    refine wp_cond_true (by kernel_rfl) ?_
    refine sR ?_
    refine rV 1 ?_
    refine ZE M 33 2 16 ?_
    refine rV 2 ?_
    refine ZP64 M 2 16 (un ((dG x) 16) 3) fun u9 M => ?_
    refine nT ?_
    refine sR ?_
    refine pA M 36 2 18 (w64 (upd (dG x) 16 (un ((dG x) 16) 3))) ?_
    refine ZG M 1 18 (w64 (upd (dG x) 16 (un ((dG x) 16) 3))) fun u10 M => ?_
    refine nT ?_
    refine wp_ret ?_
    refine au_then_ret ?_
    exact bc Tryz.results103 M 1 18 (w64 (upd (dG x) 16 (un ((dG x) 16) 3))) ⟨rfl, below_grown M.old⟩

set_option maxRecDepth 100000 in
set_option maxHeartbeats 4000000 in
theorem d_wholeB (x : Nat → Int) (h : ¬ 4 ≤ dG x 16) (w : World) (hL : Laid w)  :
    Calls Tryz.prog 103 #[.agg (av 18 (w64 x))] w fun r w' => r = .returned (.agg (av 18 (w64 (dcF x)))) ∧ Below w.heap.size w w' := by
  go_enter Tryz.func103, Tryz.ntmps103
  have M := Mem.start hL
  refine sR ?_
  refine pN M 1 (.cells (av 18 (w64 x)) 160) fun g1 u1 M => ?_
  refine pN M 2 (.cells (av 18 (w64 (fun _ => 0))) 160) fun g2 u2 M => ?_
  refine nT ?_
  refine sR ?_
  refine pA M 7 0 18 (w64 x) ?_
  refine ZC M 8 (fun w M => d_carry x w M.laid) fun u3 M => ?_
  refine ZG M 0 18 (w64 (dcF x)) fun u4 M => ?_
  refine nT ?_
  refine sR ?_
  refine pA M 9 0 18 (w64 (dcF x)) ?_
  refine pN M 3 (.cells (av 18 (w64 (fun _ => 0))) 160) fun g3 u5 M => ?_
  refine ZG M 2 18 (w64 (dcF x)) fun u6 M => ?_
  refine nT ?_
  refine sR ?_
  refine rV 1 ?_
  refine ZE M 11 2 0 ?_
  refine rV 2 ?_
  refine ZP64 M 2 0 (ua ((dcF x) 0) 5) fun u7 M => ?_
  refine nT ?_
  refine sq ?_
  refine wp_seq ?_
  refine sq ?_
  refine wp_block ?_
  refine au_loop (fun j a w' => ∃ v1 : Nat → Value, a = (fm ([.agg (av 18 (w64 x)), .pointer (some ⟨g1, 0, none⟩), .pointer (some ⟨g2, 0, none⟩), .pointer (some ⟨g3, 0, none⟩), .int .u64 (cy 8 (dg x) j), .int .i64 (j : Int)] ++ vr v1 6 32)) ∧ Mem ⟨w, []⟩ [⟨g1, .cells (av 18 (w64 (dcF x))) 160⟩, ⟨g2, .cells (av 18 (w64 (fun _ => 0))) 160⟩, ⟨g3, .cells (av 18 (w64 (st 255 8 (dg x) j))) 160⟩] w') 18 (exS M) ?_ ?_
  · intro j a u0 hj hI
    obtain ⟨v1, rfl, M⟩ := hI
    refine wp_seq ?_
    refine sR ?_
    refine rV 1 ?_
    refine ZT 15 ((j : Int) < 18) ?_
    refine nT ?_
    refine wp_cond_true (by kernel_rfl) ?_
    refine wp_skip ?_
    refine au_then ?_
    refine wp_seq ?_
    refine wp_block ?_
    refine sR ?_
    refine rV 1 ?_
    refine ZX 19 .i64 g3 (j) 18 ?_
    refine pE M 20 g3 j (.int .u64 ((dg x) j)) (fun w M => M.cell 2 rfl (by omega) (st_cell 255 8 (dg x) j)) ?_
    refine rV 3 ?_
    refine nT ?_
    refine sR ?_
    refine rV 3 ?_
    refine ZX 26 .i64 g3 (j) 18 ?_
    refine ZP64 M 2 j (un (ua ((dg x) j) (cy 8 (dg x) j)) 255) fun u8 M => ?_
    refine nT ?_
    refine rg_lit ?_
    refine rV 3 ?_
    refine pl_nil ?_
    refine au_block ?_
    refine au_then ?_
    refine rg_lit ?_
    refine rV 1 ?_
    refine ZI 17 ((j : Int) + 1) ((j + 1 : Nat) : Int) ?_
    refine rV 1 ?_
    refine nT ?_
    exact exS M
  · intro a u0 hI
    obtain ⟨v1, rfl, M⟩ := hI
    refine wp_seq ?_
    refine sR ?_
    refine rV 1 ?_
    refine ZF 15 (18 < 18) ?_
    refine nT ?_
    refine wp_cond_false (by kernel_rfl) ?_
    refine wp_exit ?_
    refine au_then_exit ?_
    refine au_then_exit ?_
    refine au_block_exit ?_
    refine au_then ?_
    refine wp_seq ?_
    refine sR ?_
    refine rV 1 ?_
    refine ZE M 30 2 16 ?_
    refine wF 31 h ?_
    refine nT ?_
    refine wp_cond_false (by kernel_rfl) ?_
    refine wp_skip ?_
    refine au_then ?_
    refine sR ?_
    refine pA M 37 0 18 (w64 (dcF x)) ?_
    refine ZG M 1 18 (w64 (dcF x)) fun u9 M => ?_
    refine nT ?_
    refine wp_ret ?_
    exact bc Tryz.results103 M 1 18 (w64 (dcF x)) ⟨rfl, below_grown M.old⟩

theorem d_whole (x : Nat → Int) (w : World) (hL : Laid w) : Calls Tryz.prog 103 #[.agg (av 18 (w64 x))] w fun r w' => r = .returned (.agg (av 18 (w64 (dwF x)))) ∧ Below w.heap.size w w' := by
  unfold dwF
  by_cases h : 4 ≤ dG x 16
  · rw [if_pos h]
    exact d_wholeA x h w hL
  · rw [if_neg h]
    exact d_wholeB x h w hL

end Go.Proofs.YtenafinbaanicaaGreatDoor.Pol
