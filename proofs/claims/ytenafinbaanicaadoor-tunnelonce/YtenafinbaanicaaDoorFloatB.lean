/- A region that draws its order, whose calls make memory of their own, and that makes several variables at times that are left open: one walk in the order of the text serves every order. -/
import Derived.Test.YtenafinbaanicaaDoorFloat
namespace Go.Proofs.YtenafinbaanicaaDoor
open Go.RowKit

section
variable {P : Program} {ops : Array Oper} {md : Region.Mode} {W : World} {n m : Nat}

/-- f operations below n are still to come; those from n to m, which make the variables, come at any time. -/
def HeadM (P : Program) (md : Region.Mode) (ops : Array Oper) (W : World) (n m : Nat) (L : Array Bool → Act → Prop) : Nat → Array Bool → Act → Prop
  | 0, done, a => L done a
  | f + 1, done, a => (∃ i, i < n ∧ i ∈ Region.ready md ops done) ∧ ∀ i ∈ Region.ready md ops done, (n ≤ i ∧ i < m) ∨ (i < n ∧ kOp P ops W i (HeadM P md ops W n m L f (done.setIfInBounds i true)) a)

theorem HeadM.first {i : Nat} {oi : Oper} {v : Value} {L : Array Bool → Act → Prop} (hi : ops[i]? = some oi) (hsel : ∀ (j : Nat) (o : Oper) cs b, ops[j]? = some o → o.op ≠ .select cs b)
    (hs : Region.sinkB md ops m = true) (hc : Region.chainB md ops m = true) (hn : m < ops.size) (hnm : n ≤ m) (hin : i < n) (hend : ∀ done a, L done a → ∀ j ∈ Region.ready md ops done, n ≤ j ∧ j < m) :
    ∀ (f : Nat) (done : Array Bool) (a : Act), HeadInv md ops m done →
      (∀ j oj, ops[j]? = some oj → j ≠ i → done.getD j true = false → (∀ e ∈ oj.after, Region.binds md e = true → e.on ≠ i) → oi.apart ops oj = true) →
      i ∈ Region.ready md ops done → YK P ops W oi v a → HeadM P md ops W n m L f (done.setIfInBounds i true) (a.put oi.dst v) → HeadM P md ops W n m L (f + 1) done a := by
  intro f
  induction f with
  | zero =>
    intro done a inv _ hr hy H
    refine ⟨⟨i, hin, hr⟩, fun j hj => ?_⟩
    by_cases hji : j = i
    · subst hji
      exact .inr ⟨hin, oi, v, hi, hy, H⟩
    · exact .inl (hend _ _ H j (ready_mono hj hji))
  | succ f ih =>
    intro done a inv hfree hr hy H
    have hun := (mem_ready.1 hr).1
    refine ⟨⟨i, hin, hr⟩, fun j hj => ?_⟩
    have hjn : j < m := Nat.lt_of_not_le fun h => tail_waits hs hc hn inv _ i rfl (by omega) hun j h hj
    by_cases hji : j = i
    · subst hji
      exact .inr ⟨hin, oi, v, hi, hy, H⟩
    · rcases H.2 j (ready_mono hj hji) with h0 | ⟨hjlt, oj, u, hoj, hyj, hK⟩
      · exact .inl h0
      · obtain ⟨hjun, oj', hoj', hall⟩ := mem_ready.1 hj
        have e : oj' = oj := Option.some.inj (hoj'.symm.trans hoj)
        subst e
        have hno : ∀ e ∈ oj'.after, Region.binds md e = true → e.on ≠ i := by
          intro e he hb heq
          have h1 := hall e he hb
          rw [heq, getD_both hun] at h1
          cases h1
        obtain ⟨h1, h2, h3⟩ := Oper.apart_spec (hfree j oj' hoj hji hjun hno)
        have hyj' : YK P ops W oj' u a := hyj.same (execOp_put oj' (fun cs b => hsel j oj' cs b hoj) a oi.dst v h1).symm (wanted_put oj' a oi.dst v h1).symm
        have hyi' : YK P ops W oi v (a.put oj'.dst u) := hy.same (execOp_put oi (fun cs b => hsel i oi cs b hi) a oj'.dst u h3) (wanted_put oi a oj'.dst u h3)
        refine .inr ⟨hjlt, oj', u, hoj, hyj', ih (done.setIfInBounds j true) _ (inv.set hj hjn) ?_ (ready_mono hr (Ne.symm hji)) hyi' ?_⟩
        · intro k ok hk hki hku hkn
          refine hfree k ok hk hki ?_ hkn
          by_cases hjk : j = k
          · subst hjk
            exact hjun
          · rw [getD_set_ne true hjk] at hku
            exact hku
        · rw [Array.setIfInBounds_comm _ _ hji, ← Act.put_comm a v u h2]
          exact hK

/-- Those from n to m are done. -/
def setR (n m : Nat) (done : Array Bool) : Array Bool := (List.range' n (m - n)).foldl (fun d i => d.setIfInBounds i true) done

/-- The order of the text may be taken; at the head's end just the variables are left ahead of the tail. -/
def lexM (md : Region.Mode) (ops : Array Oper) (g n m : Nat) : Nat → Nat → Array Bool → Bool
  | 0, _, done => decide (Region.ready md ops done = List.range' n (m - n)) && Region.seqB md ops g m (setR n m done)
  | f + 1, k, done => (Region.ready md ops done).contains k && Region.free md ops done k && lexM md ops g n m f (k + 1) (done.setIfInBounds k true)

/-- No operation below m looks at a variable's operation, or waits for it; and no two of these for one another. -/
def freeM (md : Region.Mode) (ops : Array Oper) (n m : Nat) : Bool :=
  (List.range m).all fun i => (List.range' n (m - n)).all fun j => decide (i = j) || (!Region.waitsFor md ops i j && (match ops[i]?, ops[j]? with | some o, some p => o.apart ops p | _, _ => false))

def lexAllocsB (md : Region.Mode) (ops : Array Oper) (n m : Nat) : Bool :=
  Region.noSelect ops && decide (m < ops.size) && decide (n ≤ m) && Region.sinkB md ops m && Region.chainB md ops m && freeM md ops n m && lexM md ops (ops.size - m) n m n 0 (Array.replicate ops.size false)

theorem HeadM.lex {g : Nat} {K : Act → Prop} (hsel : Region.noSelect ops = true) (hs : Region.sinkB md ops m = true) (hc : Region.chainB md ops m = true) (hn : m < ops.size) (hnm : n ≤ m) (l : List Oper) :
    ∀ (k : Nat) (done : Array Bool) (a : Act), (∀ j, j < l.length → l[j]? = ops[k + j]?) → k + l.length = n → HeadInv md ops m done →
    lexM md ops g n m l.length k done = true → wpK P ops W K l a → HeadM P md ops W n m (fun d a' => (Region.ready md ops d = List.range' n (m - n) ∧ Region.seqB md ops g m (setR n m d) = true) ∧ K a') l.length done a := by
  induction l with
  | nil =>
    intro k done a _ hk _ hB h
    simp only [List.length_nil, lexM, Bool.and_eq_true, decide_eq_true_eq] at hB
    exact ⟨hB, h⟩
  | cons o l ih =>
    intro k done a hl hk inv hB h
    have h0 : ops[k]? = some o := by simpa using (hl 0 (by simp)).symm
    simp only [List.length_cons, lexM, Bool.and_eq_true] at hB
    simp only [List.length_cons] at hk
    have hr : k ∈ Region.ready md ops done := by simpa using hB.1.1
    obtain ⟨v, hy, hK⟩ := wpK_yields h
    refine HeadM.first h0 (Region.noSelect_spec hsel) hs hc hn hnm (by omega) (fun d a' hL j hj => ?_) l.length done a inv (Region.free_spec h0 hB.1.2) hr hy ?_
    · rw [hL.1.1, List.mem_range'_1] at hj
      omega
    · refine ih (k + 1) _ _ (fun j hj => ?_) (by omega) (inv.set hr (by omega)) hB.2 hK
      have := hl (j + 1) (by simp; omega)
      simpa [Nat.add_assoc, Nat.add_comm 1 j] using this

/-- The variables that are there: which operation made them, and where they lie. -/
def doneE (E : List (Nat × Nat)) (done : Array Bool) : Array Bool := E.foldl (fun d p => d.setIfInBounds p.1 true) done
def putE (ds : Nat → Option Tmp) (vs : Nat → Nat → Value) (E : List (Nat × Nat)) (a : Act) : Act := E.foldl (fun a p => a.put (ds p.1) (vs p.1 p.2)) a

theorem doneE_snoc (E : List (Nat × Nat)) (i g : Nat) (done : Array Bool) : doneE (E ++ [(i, g)]) done = (doneE E done).setIfInBounds i true := by
  simp [doneE, List.foldl_append]
theorem putE_snoc (ds : Nat → Option Tmp) (vs : Nat → Nat → Value) (E : List (Nat × Nat)) (i g : Nat) (a : Act) : putE ds vs (E ++ [(i, g)]) a = (putE ds vs E a).put (ds i) (vs i g) := by
  simp [putE, List.foldl_append]
theorem doneE_getD (E : List (Nat × Nat)) (k : Nat) (b : Bool) (h : ∀ p ∈ E, p.1 ≠ k) : ∀ done, (doneE E done).getD k b = done.getD k b := by
  induction E with
  | nil => intro done; rfl
  | cons p E ih =>
    intro done
    show (doneE E (done.setIfInBounds p.1 true)).getD k b = _
    rw [ih (fun q hq => h q (List.mem_cons_of_mem _ hq)), getD_set_ne b (h p List.mem_cons_self)]
theorem doneE_set (E : List (Nat × Nat)) (i : Nat) (h : ∀ p ∈ E, p.1 ≠ i) : ∀ done, (doneE E done).setIfInBounds i true = doneE E (done.setIfInBounds i true) := by
  induction E with
  | nil => intro done; rfl
  | cons p E ih =>
    intro done
    show (doneE E (done.setIfInBounds p.1 true)).setIfInBounds i true = doneE E ((done.setIfInBounds i true).setIfInBounds p.1 true)
    rw [ih (fun q hq => h q (List.mem_cons_of_mem _ hq)), Array.setIfInBounds_comm _ _ (h p List.mem_cons_self)]
theorem putE_put (ds : Nat → Option Tmp) (vs : Nat → Nat → Value) (E : List (Nat × Nat)) (d : Option Tmp) (v : Value) (h : ∀ p ∈ E, ∀ t, d = some t → ds p.1 ≠ some t) : ∀ a, (putE ds vs E a).put d v = putE ds vs E (a.put d v) := by
  induction E with
  | nil => intro a; rfl
  | cons p E ih =>
    intro a
    show (putE ds vs E (a.put (ds p.1) (vs p.1 p.2))).put d v = putE ds vs E ((a.put d v).put (ds p.1) (vs p.1 p.2))
    rw [ih (fun q hq => h q (List.mem_cons_of_mem _ hq)), Act.put_comm a v (vs p.1 p.2) (h p List.mem_cons_self)]
theorem ready_doneE (E : List (Nat × Nat)) (j : Nat) (h : ∀ p ∈ E, p.1 ≠ j) : ∀ done, j ∈ Region.ready md ops done → j ∈ Region.ready md ops (doneE E done) := by
  induction E with
  | nil => intro done hj; exact hj
  | cons p E ih =>
    intro done hj
    exact ih (fun q hq => h q (List.mem_cons_of_mem _ hq)) _ (ready_mono hj (Ne.symm (h p List.mem_cons_self)))
theorem doneE_true (E : List (Nat × Nat)) : ∀ (done : Array Bool), (∀ p ∈ E, p.1 < done.size) → ∀ p ∈ E, (doneE E done).getD p.1 true = true := by
  induction E with
  | nil => intro done _ p hp; cases hp
  | cons q E ih =>
    intro done hsz p hp
    show (doneE E (done.setIfInBounds q.1 true)).getD p.1 true = true
    by_cases hin : p ∈ E
    · exact ih _ (fun r hr => by simpa using hsz r (List.mem_cons_of_mem _ hr)) p hin
    · have hpq : p = q := by
        rcases List.mem_cons.1 hp with h | h
        · exact h
        · exact absurd h hin
      subst hpq
      by_cases hex : ∃ r ∈ E, r.1 = p.1
      · obtain ⟨r, hr, he⟩ := hex
        have := ih (done.setIfInBounds p.1 true) (fun r hr => by simpa using hsz r (List.mem_cons_of_mem _ hr)) r hr
        rwa [he] at this
      · rw [doneE_getD E p.1 true (fun r hr he => hex ⟨r, hr, he⟩)]
        have := hsz p List.mem_cons_self
        simp [this]

/-- What is known of a world in which these variables are there. -/
structure KE (W : World) (Zs : Nat → Obj) (E : List (Nat × Nat)) (w : World) : Prop where
  keep : Below W.heap.size W w
  lt : ∀ p ∈ E, p.2 < w.heap.size
  at_ : ∀ p ∈ E, w.heap[p.2]? = some (Zs p.1)
  ge : ∀ p ∈ E, W.heap.size ≤ p.2
  nodup : (E.map Prod.snd).Nodup

theorem KE.next {Zs : Nat → Obj} {E : List (Nat × Nat)} {w w' : World} (h : KE W Zs E w) (hb : Below w.heap.size w w') : KE W Zs E w' where
  keep := h.keep.trans (hb.mono h.keep.size)
  lt := fun p hp => Nat.lt_of_lt_of_le (h.lt p hp) hb.size
  at_ := fun p hp => by rw [hb.block _ (h.lt p hp)]; exact h.at_ p hp
  ge := h.ge
  nodup := h.nodup

theorem KE.more {Zs : Nat → Obj} {E : List (Nat × Nat)} {w : World} (h : KE W Zs E w) (i : Nat) : KE W Zs (E ++ [(i, w.heap.size)]) (w.alloc (Zs i)) := by
  have hb : Below w.heap.size w (w.alloc (Zs i)) := (Below.refl _ _).alloc (Nat.le_refl _) _
  have h' := h.next hb
  refine ⟨h'.keep, fun p hp => ?_, fun p hp => ?_, fun p hp => ?_, ?_⟩
  · rcases List.mem_append.1 hp with hp | hp
    · exact h'.lt p hp
    · rw [List.mem_singleton.1 hp]
      simp
  · rcases List.mem_append.1 hp with hp | hp
    · exact h'.at_ p hp
    · rw [List.mem_singleton.1 hp]
      exact heap_alloc_new w _
  · rcases List.mem_append.1 hp with hp | hp
    · exact h.ge p hp
    · rw [List.mem_singleton.1 hp]
      exact h.keep.size
  · rw [List.map_append, List.nodup_append]
    refine ⟨h.nodup, by simp, fun a ha b hb e => ?_⟩
    simp only [List.map_cons, List.map_nil, List.mem_singleton] at hb
    obtain ⟨p, hp, hpe⟩ := List.mem_map.1 ha
    have := h.lt p hp
    omega

theorem HeadM.any {g : Nat} {L : Array Bool → Act → Prop} {Q : Exit → Act → World → Prop} {ds : Nat → Option Tmp} {vs : Nat → Nat → Value} {Zs : Nat → Obj}
    (hsel : Region.noSelect ops = true) (hs : Region.sinkB md ops m = true) (hc : Region.chainB md ops m = true) (hn : m < ops.size) (hnm : n ≤ m) (hfr : freeM md ops n m = true)
    (hA : ∀ j, n ≤ j → j < m → ∃ o, ops[j]? = some o ∧ o.dst = ds j ∧ o.guard = none ∧ ∀ a w, (execOp (Act.eval a) o).run P w = .ok (.value (vs j w.heap.size)) (w.alloc (Zs j)))
    (hend : ∀ done a, L done a → Region.ready md ops done = List.range' n (m - n))
    (hL : ∀ done a, L done a → ∀ E w, (E.map Prod.fst).Nodup → (∀ p ∈ E, n ≤ p.1 ∧ p.1 < m) → E.length = m - n → KE W Zs E w → wpAny P md ops Q g (doneE E done) (putE ds vs E a) w) :
    ∀ (N f : Nat) (E : List (Nat × Nat)) (done : Array Bool) (a : Act) (w : World), N + E.length = f + (m - n) → (E.map Prod.fst).Nodup → (∀ p ∈ E, n ≤ p.1 ∧ p.1 < m) → E.length ≤ m - n → done.size = ops.size → HeadInv md ops m (doneE E done) →
      HeadM P md ops W n m L f done a → KE W Zs E w → wpAny P md ops Q (N + g) (doneE E done) (putE ds vs E a) w := by
  have hap : ∀ (i j : Nat), i < m → n ≤ j → j < m → i ≠ j → Region.waitsFor md ops i j = false ∧ ∀ o p, ops[i]? = some o → ops[j]? = some p → o.apart ops p = true := by
    intro i j hi hj1 hj2 hij
    have h1 := List.all_eq_true.1 hfr i (List.mem_range.2 hi)
    have h2 := List.all_eq_true.1 h1 j (List.mem_range'_1.2 ⟨hj1, by omega⟩)
    simp only [Bool.or_eq_true, decide_eq_true_eq, Bool.and_eq_true, Bool.not_eq_true'] at h2
    rcases h2 with h2 | h2
    · exact absurd h2 hij
    · refine ⟨h2.1, fun o p ho hp => ?_⟩
      have h3 := h2.2
      rw [ho, hp] at h3
      exact h3
  intro N
  induction N with
  | zero =>
    intro f E done a w hN hnd hin hlen hsz inv hH hK
    have hf : f = 0 := by omega
    subst hf
    rw [Nat.zero_add]
    exact hL done a hH E w hnd hin (by omega) hK
  | succ N ih =>
    intro f E done a w hN hnd hin hlen hsz inv hH hK
    rw [show N + 1 + g = (N + g) + 1 by omega]
    -- something below m comes up
    have hsome : ∃ i, i < m ∧ i ∈ Region.ready md ops (doneE E done) := by
      cases f with
      | succ f =>
        obtain ⟨⟨i, hi, hr⟩, _⟩ := hH
        exact ⟨i, by omega, ready_doneE E i (fun p hp he => by have := (hin p hp).1; omega) done hr⟩
      | zero =>
        have hr := hend done a hH
        have hex : ∃ j, n ≤ j ∧ j < m ∧ ∀ p ∈ E, p.1 ≠ j := by
          refine Classical.byContradiction fun hno => ?_
          have hall : ∀ j, n ≤ j → j < m → j ∈ E.map Prod.fst := by
            intro j h1 h2
            refine Classical.byContradiction fun hj => hno ⟨j, h1, h2, fun p hp he => hj (List.mem_map.2 ⟨p, hp, he⟩)⟩
          have hsub : List.range' n (m - n) ⊆ E.map Prod.fst := fun j hj => by
            rw [List.mem_range'_1] at hj
            exact hall j hj.1 (by omega)
          have hle := (List.nodup_range' (s := n) (n := m - n)).length_le_of_subset hsub
          simp at hle
          omega
        obtain ⟨j, h1, h2, h3⟩ := hex
        refine ⟨j, h2, ready_doneE E j h3 done ?_⟩
        rw [hr, List.mem_range'_1]
        omega
    obtain ⟨i0, hi0, hr0⟩ := hsome
    refine ⟨fun h0 => (by rw [h0] at hr0; cases hr0), fun i hi => ?_⟩
    have him : i < m := Nat.lt_of_not_le fun h => tail_waits hs hc hn inv _ i0 rfl hi0 (mem_ready.1 hr0).1 i h hi
    have hiE : ∀ p ∈ E, p.1 ≠ i := by
      intro p hp he
      have h1 := doneE_true E done (fun q hq => by have := (hin q hq).2; omega) p hp
      rw [he, (mem_ready.1 hi).1] at h1
      cases h1
    by_cases hni : n ≤ i
    · -- a variable is made
      obtain ⟨o, ho, hd, hg, hrun⟩ := hA i hni him
      unfold wpOp
      have hw : Region.wanted o (yielded ops (putE ds vs E a).tmps) = true := by simp [Region.wanted, hg]
      simp only [ho, hw, if_true]
      refine .inl ?_
      unfold Oper.wp
      rw [hrun]
      simp only [Oper.upon]
      rw [hd, ← putE_snoc, ← doneE_snoc]
      refine ih f (E ++ [(i, w.heap.size)]) done a _ (by simp; omega) ?_ ?_ ?_ hsz ?_ hH (hK.more i)
      · rw [List.map_append, List.nodup_append]
        refine ⟨hnd, by simp, fun x hx y hy e => ?_⟩
        simp only [List.map_cons, List.map_nil, List.mem_singleton] at hy
        obtain ⟨p, hp, hpe⟩ := List.mem_map.1 hx
        exact hiE p hp (by omega)
      · intro p hp
        rcases List.mem_append.1 hp with hp | hp
        · exact hin p hp
        · rw [List.mem_singleton.1 hp]
          exact ⟨hni, him⟩
      · cases f with
        | zero => simp; omega
        | succ f =>
          simp only [List.length_append, List.length_cons, List.length_nil]
          refine Nat.lt_of_not_le fun hle => ?_
          have hlen2 : E.length = m - n := by omega
          have hsub : E.map Prod.fst ⊆ List.range' n (m - n) := fun x hx => by
            obtain ⟨p, hp, hpe⟩ := List.mem_map.1 hx
            have := hin p hp
            rw [List.mem_range'_1]
            omega
          have hmem : i ∈ E.map Prod.fst := by
            refine Classical.byContradiction fun hni2 => ?_
            have hnd2 : (i :: E.map Prod.fst).Nodup := List.nodup_cons.2 ⟨hni2, hnd⟩
            have hsub2 : (i :: E.map Prod.fst) ⊆ List.range' n (m - n) := fun x hx => by
              rcases List.mem_cons.1 hx with rfl | hx
              · rw [List.mem_range'_1]
                omega
              · exact hsub hx
            have := hnd2.length_le_of_subset hsub2
            simp at this
            omega
          obtain ⟨p, hp, hpe⟩ := List.mem_map.1 hmem
          exact hiE p hp hpe
      · rw [doneE_snoc]
        exact inv.set hi him
    · -- an operation of the head
      obtain ⟨hiun, oi, hoi, hie⟩ := mem_ready.1 hi
      have hrd : i ∈ Region.ready md ops done := by
        rw [mem_ready]
        rw [doneE_getD E i true hiE] at hiun
        refine ⟨hiun, oi, hoi, fun e he hb => ?_⟩
        have h1 := hie e he hb
        rwa [doneE_getD E e.on false (fun p hp heq => waits_of hoi (hap i p.1 him (hin p hp).1 (hin p hp).2 (by have := (hin p hp).1; omega)).1 e he hb heq.symm)] at h1
      cases f with
      | zero =>
        rw [hend done a hH, List.mem_range'_1] at hrd
        omega
      | succ f =>
        rcases hH.2 i hrd with h0 | ⟨hlt, o, v, ho, hy, hKK⟩
        · omega
        · have eo : o = oi := Option.some.inj (ho.symm.trans hoi)
          subst eo
          have hso : ∀ cs b, o.op ≠ .select cs b := fun cs b => Region.noSelect_spec hsel i o cs b ho
          have hapE : ∀ p ∈ E, (∀ d, ds p.1 = some d → d ∉ o.looksAt ops) ∧ (∀ t, o.dst = some t → ds p.1 ≠ some t) := by
            intro p hp
            obtain ⟨q, hq, hqd, _⟩ := hA p.1 (hin p hp).1 (hin p hp).2
            have h4 := Oper.apart_spec ((hap i p.1 him (hin p hp).1 (hin p hp).2 (by have := (hin p hp).1; omega)).2 o q ho hq)
            rw [hqd] at h4
            exact ⟨h4.2.2, h4.2.1⟩
          have hyE : ∀ (E' : List (Nat × Nat)) (b : Act), (∀ p ∈ E', ∀ d, ds p.1 = some d → d ∉ o.looksAt ops) → YK P ops W o v b → YK P ops W o v (putE ds vs E' b) := by
            intro E'
            induction E' with
            | nil => intro b _ h; exact h
            | cons p E' ih2 =>
              intro b hb h
              exact ih2 _ (fun q hq => hb q (List.mem_cons_of_mem _ hq)) (h.same (execOp_put o hso b _ _ (hb p List.mem_cons_self)) (wanted_put o b _ _ (hb p List.mem_cons_self)))
          have hy' := hyE E a (fun p hp => (hapE p hp).1) hy
          -- the step itself
          have hstep : wpOp P ops Q i (wpAny P md ops Q (N + g) ((doneE E done).setIfInBounds i true)) (putE ds vs E a) w := by
            unfold Go.wpOp
            simp only [ho]
            have hnext : ∀ w', Below w.heap.size w w' → wpAny P md ops Q (N + g) ((doneE E done).setIfInBounds i true) ((putE ds vs E a).put o.dst v) w' := by
              intro w' hb
              rw [doneE_set E i hiE, putE_put ds vs E o.dst v (fun p hp => (hapE p hp).2)]
              refine ih f E (done.setIfInBounds i true) (a.put o.dst v) w' (by omega) hnd hin hlen (by simpa using hsz) ?_ hKK (hK.next hb)
              rw [← doneE_set E i hiE]
              exact inv.set hi him
            rcases hy' with ⟨hw, hv⟩ | ⟨hw, rfl⟩
            · rw [if_pos hw]
              refine .inl ?_
              have hk := hv ⟨w, hK.keep⟩
              unfold keepAt at hk
              unfold Oper.wp
              simp only at hk
              generalize (execOp (putE ds vs E a).eval o).run P w = r at *
              cases r with
              | ok x w' =>
                cases x <;> simp only [keepUpon] at hk <;> simp only [Oper.upon]
                case value u =>
                  obtain ⟨e1, e2⟩ := hk
                  rw [e1, e2]
                  exact hnext w (Below.refl _ _)
                case skip =>
                  obtain ⟨e1, e2⟩ := hk
                  rw [e1, ← e2]
                  exact hnext w (Below.refl _ _)
                case enter f args =>
                  obtain ⟨e1, hcl⟩ := hk
                  rw [e1]
                  exact hcl.mono fun e w'' ⟨he, hb⟩ => by subst he; exact hnext w'' hb
              | halt x w' => simp only [keepUpon] at hk
            · rw [if_neg (by rw [hw]; exact Bool.false_ne_true)]
              exact hnext w (Below.refl _ _)
          exact hstep

end
end Go.Proofs.YtenafinbaanicaaDoor
