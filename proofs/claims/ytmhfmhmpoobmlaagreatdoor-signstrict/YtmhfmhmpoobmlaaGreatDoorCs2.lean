/- Part 2 of the walks and facts behind signStrict_holds. -/
import Derived.Test.YtmhfmhmpoobmlaaGreatDoorCs1
import Derived.Deep.MidRow
import Derived.Laws.Bits64
import Derived.Laws.BitsAllLaws
import Derived.Laws.BytesString
import Derived.Laws.IdiomStrings
import Derived.Laws.Rows
import Derived.Laws.StructEq
import Derived.RegionTactic
import Derived.Test.YtmhfmhmpoobmlaaGreatDoorRows
import Derived.WalkKit
import Derived.WalkLawsBesides
import Derived.WalkSpells
/- A region that draws its order, whose calls make memory of their own, and that makes several variables at times that are left open: one walk in the order of the text serves every order. -/
namespace Go.Proofs.YtmhfmhmpoobmlaaGreatDoor
open Go.RowKit

section
variable {P : Program} {ops : Array Oper} {md : Region.Mode} {W : World} {n m : Nat}

/-- f operations below n are still to come; those from n to m, which make the variables, come at any time. -/
def HeadM (P : Program) (md : Region.Mode) (ops : Array Oper) (W : World) (n m : Nat) (L : Array Bool → Act → Prop) : Nat → Array Bool → Act → Prop
  | 0, done, a => L done a
  | f + 1, done, a => (∃ i, i < n ∧ i ∈ Region.ready md ops done) ∧ ∀ i ∈ Region.ready md ops done, (n ≤ i ∧ i < m) ∨ (i < n ∧ kOp P ops W i (HeadM P md ops W n m L f (done.setIfInBounds i true)) a)

theorem HeadM.first {i : Nat} {oi : Oper} {v : Value} {L : Array Bool → Act → Prop} (hi : ops[i]? = some oi) (hsel : ∀ (j : Nat) (o : Oper) cs b, ops[j]? = some o → o.op ≠ .select cs b)
    (hs : Region.sinkB md ops m = true) (hc : Region.chainB md ops m = true) (hn : m < ops.size) (hnm : n ≤ m) (hin : i < n) (hend : ∀ done a, L done a → ∀ j ∈ Region.ready md ops done, n ≤ j ∧ j < m) :
    ∀ (f : Nat) (done : Array Bool) (a : Act), HeadInv md ops m done →
      (∀ j oj, ops[j]? = some oj → j ≠ i → done.getD j true = false → (∀ e ∈ oj.after, Region.binds md e = true → e.on ≠ i) → oi.apart ops oj = true) →
      i ∈ Region.ready md ops done → YK P ops W oi v a → HeadM P md ops W n m L f (done.setIfInBounds i true) (a.put oi.dst v) → HeadM P md ops W n m L (f + 1) done a := by
  intro f
  induction f with
  | zero =>
    intro done a inv _ hr hy H
    refine ⟨⟨i, hin, hr⟩, fun j hj => ?_⟩
    by_cases hji : j = i
    · subst hji
      exact .inr ⟨hin, oi, v, hi, hy, H⟩
    · exact .inl (hend _ _ H j (ready_mono hj hji))
  | succ f ih =>
    intro done a inv hfree hr hy H
    have hun := (mem_ready.1 hr).1
    refine ⟨⟨i, hin, hr⟩, fun j hj => ?_⟩
    have hjn : j < m := Nat.lt_of_not_le fun h => tail_waits hs hc hn inv _ i rfl (by omega) hun j h hj
    by_cases hji : j = i
    · subst hji
      exact .inr ⟨hin, oi, v, hi, hy, H⟩
    · rcases H.2 j (ready_mono hj hji) with h0 | ⟨hjlt, oj, u, hoj, hyj, hK⟩
      · exact .inl h0
      · obtain ⟨hjun, oj', hoj', hall⟩ := mem_ready.1 hj
        have e : oj' = oj := Option.some.inj (hoj'.symm.trans hoj)
        subst e
        have hno : ∀ e ∈ oj'.after, Region.binds md e = true → e.on ≠ i := by
          intro e he hb heq
          have h1 := hall e he hb
          rw [heq, getD_both hun] at h1
          cases h1
        obtain ⟨h1, h2, h3⟩ := Oper.apart_spec (hfree j oj' hoj hji hjun hno)
        have hyj' : YK P ops W oj' u a := hyj.same (execOp_put oj' (fun cs b => hsel j oj' cs b hoj) a oi.dst v h1).symm (wanted_put oj' a oi.dst v h1).symm
        have hyi' : YK P ops W oi v (a.put oj'.dst u) := hy.same (execOp_put oi (fun cs b => hsel i oi cs b hi) a oj'.dst u h3) (wanted_put oi a oj'.dst u h3)
        refine .inr ⟨hjlt, oj', u, hoj, hyj', ih (done.setIfInBounds j true) _ (inv.set hj hjn) ?_ (ready_mono hr (Ne.symm hji)) hyi' ?_⟩
        · intro k ok hk hki hku hkn
          refine hfree k ok hk hki ?_ hkn
          by_cases hjk : j = k
          · subst hjk
            exact hjun
          · rw [getD_set_ne true hjk] at hku
            exact hku
        · rw [Array.setIfInBounds_comm _ _ hji, ← Act.put_comm a v u h2]
          exact hK

/-- Those from n to m are done. -/
def setR (n m : Nat) (done : Array Bool) : Array Bool := (List.range' n (m - n)).foldl (fun d i => d.setIfInBounds i true) done

/-- The order of the text may be taken; at the head's end just the variables are left ahead of the tail. -/
def lexM (md : Region.Mode) (ops : Array Oper) (g n m : Nat) : Nat → Nat → Array Bool → Bool
  | 0, _, done => decide (Region.ready md ops done = List.range' n (m - n)) && Region.seqB md ops g m (setR n m done)
  | f + 1, k, done => (Region.ready md ops done).contains k && Region.free md ops done k && lexM md ops g n m f (k + 1) (done.setIfInBounds k true)

/-- No operation below m looks at a variable's operation, or waits for it; and no two of these for one another. -/
def freeM (md : Region.Mode) (ops : Array Oper) (n m : Nat) : Bool :=
  (List.range m).all fun i => (List.range' n (m - n)).all fun j => decide (i = j) || (!Region.waitsFor md ops i j && (match ops[i]?, ops[j]? with | some o, some p => o.apart ops p | _, _ => false))

def lexAllocsB (md : Region.Mode) (ops : Array Oper) (n m : Nat) : Bool :=
  Region.noSelect ops && decide (m < ops.size) && decide (n ≤ m) && Region.sinkB md ops m && Region.chainB md ops m && freeM md ops n m && lexM md ops (ops.size - m) n m n 0 (Array.replicate ops.size false)

theorem HeadM.lex {g : Nat} {K : Act → Prop} (hsel : Region.noSelect ops = true) (hs : Region.sinkB md ops m = true) (hc : Region.chainB md ops m = true) (hn : m < ops.size) (hnm : n ≤ m) (l : List Oper) :
    ∀ (k : Nat) (done : Array Bool) (a : Act), (∀ j, j < l.length → l[j]? = ops[k + j]?) → k + l.length = n → HeadInv md ops m done →
    lexM md ops g n m l.length k done = true → wpK P ops W K l a → HeadM P md ops W n m (fun d a' => (Region.ready md ops d = List.range' n (m - n) ∧ Region.seqB md ops g m (setR n m d) = true) ∧ K a') l.length done a := by
  induction l with
  | nil =>
    intro k done a _ hk _ hB h
    simp only [List.length_nil, lexM, Bool.and_eq_true, decide_eq_true_eq] at hB
    exact ⟨hB, h⟩
  | cons o l ih =>
    intro k done a hl hk inv hB h
    have h0 : ops[k]? = some o := by simpa using (hl 0 (by simp)).symm
    simp only [List.length_cons, lexM, Bool.and_eq_true] at hB
    simp only [List.length_cons] at hk
    have hr : k ∈ Region.ready md ops done := by simpa using hB.1.1
    obtain ⟨v, hy, hK⟩ := wpK_yields h
    refine HeadM.first h0 (Region.noSelect_spec hsel) hs hc hn hnm (by omega) (fun d a' hL j hj => ?_) l.length done a inv (Region.free_spec h0 hB.1.2) hr hy ?_
    · rw [hL.1.1, List.mem_range'_1] at hj
      omega
    · refine ih (k + 1) _ _ (fun j hj => ?_) (by omega) (inv.set hr (by omega)) hB.2 hK
      have := hl (j + 1) (by simp; omega)
      simpa [Nat.add_assoc, Nat.add_comm 1 j] using this

/-- The variables that are there: which operation made them, and where they lie. -/
def doneE (E : List (Nat × Nat)) (done : Array Bool) : Array Bool := E.foldl (fun d p => d.setIfInBounds p.1 true) done
def putE (ds : Nat → Option Tmp) (E : List (Nat × Nat)) (a : Act) : Act := E.foldl (fun a p => a.put (ds p.1) (.pointer (some ⟨p.2, 0, none⟩))) a

theorem doneE_snoc (E : List (Nat × Nat)) (i g : Nat) (done : Array Bool) : doneE (E ++ [(i, g)]) done = (doneE E done).setIfInBounds i true := by
  simp [doneE, List.foldl_append]
theorem putE_snoc (ds : Nat → Option Tmp) (E : List (Nat × Nat)) (i g : Nat) (a : Act) : putE ds (E ++ [(i, g)]) a = (putE ds E a).put (ds i) (.pointer (some ⟨g, 0, none⟩)) := by
  simp [putE, List.foldl_append]
theorem doneE_getD (E : List (Nat × Nat)) (k : Nat) (b : Bool) (h : ∀ p ∈ E, p.1 ≠ k) : ∀ done, (doneE E done).getD k b = done.getD k b := by
  induction E with
  | nil => intro done; rfl
  | cons p E ih =>
    intro done
    show (doneE E (done.setIfInBounds p.1 true)).getD k b = _
    rw [ih (fun q hq => h q (List.mem_cons_of_mem _ hq)), getD_set_ne b (h p List.mem_cons_self)]
theorem doneE_set (E : List (Nat × Nat)) (i : Nat) (h : ∀ p ∈ E, p.1 ≠ i) : ∀ done, (doneE E done).setIfInBounds i true = doneE E (done.setIfInBounds i true) := by
  induction E with
  | nil => intro done; rfl
  | cons p E ih =>
    intro done
    show (doneE E (done.setIfInBounds p.1 true)).setIfInBounds i true = doneE E ((done.setIfInBounds i true).setIfInBounds p.1 true)
    rw [ih (fun q hq => h q (List.mem_cons_of_mem _ hq)), Array.setIfInBounds_comm _ _ (h p List.mem_cons_self)]
theorem putE_put (ds : Nat → Option Tmp) (E : List (Nat × Nat)) (d : Option Tmp) (v : Value) (h : ∀ p ∈ E, ∀ t, d = some t → ds p.1 ≠ some t) : ∀ a, (putE ds E a).put d v = putE ds E (a.put d v) := by
  induction E with
  | nil => intro a; rfl
  | cons p E ih =>
    intro a
    show (putE ds E (a.put (ds p.1) (.pointer (some ⟨p.2, 0, none⟩)))).put d v = putE ds E ((a.put d v).put (ds p.1) (.pointer (some ⟨p.2, 0, none⟩)))
    rw [ih (fun q hq => h q (List.mem_cons_of_mem _ hq)), Act.put_comm a v (.pointer (some ⟨p.2, 0, none⟩)) (h p List.mem_cons_self)]
theorem ready_doneE (E : List (Nat × Nat)) (j : Nat) (h : ∀ p ∈ E, p.1 ≠ j) : ∀ done, j ∈ Region.ready md ops done → j ∈ Region.ready md ops (doneE E done) := by
  induction E with
  | nil => intro done hj; exact hj
  | cons p E ih =>
    intro done hj
    exact ih (fun q hq => h q (List.mem_cons_of_mem _ hq)) _ (ready_mono hj (Ne.symm (h p List.mem_cons_self)))
theorem doneE_true (E : List (Nat × Nat)) : ∀ (done : Array Bool), (∀ p ∈ E, p.1 < done.size) → ∀ p ∈ E, (doneE E done).getD p.1 true = true := by
  induction E with
  | nil => intro done _ p hp; cases hp
  | cons q E ih =>
    intro done hsz p hp
    show (doneE E (done.setIfInBounds q.1 true)).getD p.1 true = true
    by_cases hin : p ∈ E
    · exact ih _ (fun r hr => by simpa using hsz r (List.mem_cons_of_mem _ hr)) p hin
    · have hpq : p = q := by
        rcases List.mem_cons.1 hp with h | h
        · exact h
        · exact absurd h hin
      subst hpq
      by_cases hex : ∃ r ∈ E, r.1 = p.1
      · obtain ⟨r, hr, he⟩ := hex
        have := ih (done.setIfInBounds p.1 true) (fun r hr => by simpa using hsz r (List.mem_cons_of_mem _ hr)) r hr
        rwa [he] at this
      · rw [doneE_getD E p.1 true (fun r hr he => hex ⟨r, hr, he⟩)]
        have := hsz p List.mem_cons_self
        simp [this]

/-- What is known of a world in which these variables are there. -/
structure KE (W : World) (Zs : Nat → Obj) (E : List (Nat × Nat)) (w : World) : Prop where
  keep : Below W.heap.size W w
  lt : ∀ p ∈ E, p.2 < w.heap.size
  at_ : ∀ p ∈ E, w.heap[p.2]? = some (Zs p.1)
  ge : ∀ p ∈ E, W.heap.size ≤ p.2
  nodup : (E.map Prod.snd).Nodup

theorem KE.next {Zs : Nat → Obj} {E : List (Nat × Nat)} {w w' : World} (h : KE W Zs E w) (hb : Below w.heap.size w w') : KE W Zs E w' where
  keep := h.keep.trans (hb.mono h.keep.size)
  lt := fun p hp => Nat.lt_of_lt_of_le (h.lt p hp) hb.size
  at_ := fun p hp => by rw [hb.block _ (h.lt p hp)]; exact h.at_ p hp
  ge := h.ge
  nodup := h.nodup

theorem KE.more {Zs : Nat → Obj} {E : List (Nat × Nat)} {w : World} (h : KE W Zs E w) (i : Nat) : KE W Zs (E ++ [(i, w.heap.size)]) (w.alloc (Zs i)) := by
  have hb : Below w.heap.size w (w.alloc (Zs i)) := (Below.refl _ _).alloc (Nat.le_refl _) _
  have h' := h.next hb
  refine ⟨h'.keep, fun p hp => ?_, fun p hp => ?_, fun p hp => ?_, ?_⟩
  · rcases List.mem_append.1 hp with hp | hp
    · exact h'.lt p hp
    · rw [List.mem_singleton.1 hp]
      simp
  · rcases List.mem_append.1 hp with hp | hp
    · exact h'.at_ p hp
    · rw [List.mem_singleton.1 hp]
      exact heap_alloc_new w _
  · rcases List.mem_append.1 hp with hp | hp
    · exact h.ge p hp
    · rw [List.mem_singleton.1 hp]
      exact h.keep.size
  · rw [List.map_append, List.nodup_append]
    refine ⟨h.nodup, by simp, fun a ha b hb e => ?_⟩
    simp only [List.map_cons, List.map_nil, List.mem_singleton] at hb
    obtain ⟨p, hp, hpe⟩ := List.mem_map.1 ha
    have := h.lt p hp
    omega

theorem HeadM.any {g : Nat} {L : Array Bool → Act → Prop} {Q : Exit → Act → World → Prop} {ds : Nat → Option Tmp} {Zs : Nat → Obj}
    (hsel : Region.noSelect ops = true) (hs : Region.sinkB md ops m = true) (hc : Region.chainB md ops m = true) (hn : m < ops.size) (hnm : n ≤ m) (hfr : freeM md ops n m = true)
    (hA : ∀ j, n ≤ j → j < m → ∃ o, ops[j]? = some o ∧ o.dst = ds j ∧ o.guard = none ∧ ∀ a w, (execOp (Act.eval a) o).run P w = .ok (.value (.pointer (some ⟨w.heap.size, 0, none⟩))) (w.alloc (Zs j)))
    (hend : ∀ done a, L done a → Region.ready md ops done = List.range' n (m - n))
    (hL : ∀ done a, L done a → ∀ E w, (E.map Prod.fst).Nodup → (∀ p ∈ E, n ≤ p.1 ∧ p.1 < m) → E.length = m - n → KE W Zs E w → wpAny P md ops Q g (doneE E done) (putE ds E a) w) :
    ∀ (N f : Nat) (E : List (Nat × Nat)) (done : Array Bool) (a : Act) (w : World), N + E.length = f + (m - n) → (E.map Prod.fst).Nodup → (∀ p ∈ E, n ≤ p.1 ∧ p.1 < m) → E.length ≤ m - n → done.size = ops.size → HeadInv md ops m (doneE E done) →
      HeadM P md ops W n m L f done a → KE W Zs E w → wpAny P md ops Q (N + g) (doneE E done) (putE ds E a) w := by
  have hap : ∀ (i j : Nat), i < m → n ≤ j → j < m → i ≠ j → Region.waitsFor md ops i j = false ∧ ∀ o p, ops[i]? = some o → ops[j]? = some p → o.apart ops p = true := by
    intro i j hi hj1 hj2 hij
    have h1 := List.all_eq_true.1 hfr i (List.mem_range.2 hi)
    have h2 := List.all_eq_true.1 h1 j (List.mem_range'_1.2 ⟨hj1, by omega⟩)
    simp only [Bool.or_eq_true, decide_eq_true_eq, Bool.and_eq_true, Bool.not_eq_true'] at h2
    rcases h2 with h2 | h2
    · exact absurd h2 hij
    · refine ⟨h2.1, fun o p ho hp => ?_⟩
      have h3 := h2.2
      rw [ho, hp] at h3
      exact h3
  intro N
  induction N with
  | zero =>
    intro f E done a w hN hnd hin hlen hsz inv hH hK
    have hf : f = 0 := by omega
    subst hf
    rw [Nat.zero_add]
    exact hL done a hH E w hnd hin (by omega) hK
  | succ N ih =>
    intro f E done a w hN hnd hin hlen hsz inv hH hK
    rw [show N + 1 + g = (N + g) + 1 by omega]
    -- something below m comes up
    have hsome : ∃ i, i < m ∧ i ∈ Region.ready md ops (doneE E done) := by
      cases f with
      | succ f =>
        obtain ⟨⟨i, hi, hr⟩, _⟩ := hH
        exact ⟨i, by omega, ready_doneE E i (fun p hp he => by have := (hin p hp).1; omega) done hr⟩
      | zero =>
        have hr := hend done a hH
        have hex : ∃ j, n ≤ j ∧ j < m ∧ ∀ p ∈ E, p.1 ≠ j := by
          refine Classical.byContradiction fun hno => ?_
          have hall : ∀ j, n ≤ j → j < m → j ∈ E.map Prod.fst := by
            intro j h1 h2
            refine Classical.byContradiction fun hj => hno ⟨j, h1, h2, fun p hp he => hj (List.mem_map.2 ⟨p, hp, he⟩)⟩
          have hsub : List.range' n (m - n) ⊆ E.map Prod.fst := fun j hj => by
            rw [List.mem_range'_1] at hj
            exact hall j hj.1 (by omega)
          have hle := (List.nodup_range' (s := n) (n := m - n)).length_le_of_subset hsub
          simp at hle
          omega
        obtain ⟨j, h1, h2, h3⟩ := hex
        refine ⟨j, h2, ready_doneE E j h3 done ?_⟩
        rw [hr, List.mem_range'_1]
        omega
    obtain ⟨i0, hi0, hr0⟩ := hsome
    refine ⟨fun h0 => (by rw [h0] at hr0; cases hr0), fun i hi => ?_⟩
    have him : i < m := Nat.lt_of_not_le fun h => tail_waits hs hc hn inv _ i0 rfl hi0 (mem_ready.1 hr0).1 i h hi
    have hiE : ∀ p ∈ E, p.1 ≠ i := by
      intro p hp he
      have h1 := doneE_true E done (fun q hq => by have := (hin q hq).2; omega) p hp
      rw [he, (mem_ready.1 hi).1] at h1
      cases h1
    by_cases hni : n ≤ i
    · -- a variable is made
      obtain ⟨o, ho, hd, hg, hrun⟩ := hA i hni him
      unfold wpOp
      have hw : Region.wanted o (yielded ops (putE ds E a).tmps) = true := by simp [Region.wanted, hg]
      simp only [ho, hw, if_true]
      refine .inl ?_
      unfold Oper.wp
      rw [hrun]
      simp only [Oper.upon]
      rw [hd, ← putE_snoc, ← doneE_snoc]
      refine ih f (E ++ [(i, w.heap.size)]) done a _ (by simp; omega) ?_ ?_ ?_ hsz ?_ hH (hK.more i)
      · rw [List.map_append, List.nodup_append]
        refine ⟨hnd, by simp, fun x hx y hy e => ?_⟩
        simp only [List.map_cons, List.map_nil, List.mem_singleton] at hy
        obtain ⟨p, hp, hpe⟩ := List.mem_map.1 hx
        exact hiE p hp (by omega)
      · intro p hp
        rcases List.mem_append.1 hp with hp | hp
        · exact hin p hp
        · rw [List.mem_singleton.1 hp]
          exact ⟨hni, him⟩
      · cases f with
        | zero => simp; omega
        | succ f =>
          simp only [List.length_append, List.length_cons, List.length_nil]
          refine Nat.lt_of_not_le fun hle => ?_
          have hlen2 : E.length = m - n := by omega
          have hsub : E.map Prod.fst ⊆ List.range' n (m - n) := fun x hx => by
            obtain ⟨p, hp, hpe⟩ := List.mem_map.1 hx
            have := hin p hp
            rw [List.mem_range'_1]
            omega
          have hmem : i ∈ E.map Prod.fst := by
            refine Classical.byContradiction fun hni2 => ?_
            have hnd2 : (i :: E.map Prod.fst).Nodup := List.nodup_cons.2 ⟨hni2, hnd⟩
            have hsub2 : (i :: E.map Prod.fst) ⊆ List.range' n (m - n) := fun x hx => by
              rcases List.mem_cons.1 hx with rfl | hx
              · rw [List.mem_range'_1]
                omega
              · exact hsub hx
            have := hnd2.length_le_of_subset hsub2
            simp at this
            omega
          obtain ⟨p, hp, hpe⟩ := List.mem_map.1 hmem
          exact hiE p hp hpe
      · rw [doneE_snoc]
        exact inv.set hi him
    · -- an operation of the head
      obtain ⟨hiun, oi, hoi, hie⟩ := mem_ready.1 hi
      have hrd : i ∈ Region.ready md ops done := by
        rw [mem_ready]
        rw [doneE_getD E i true hiE] at hiun
        refine ⟨hiun, oi, hoi, fun e he hb => ?_⟩
        have h1 := hie e he hb
        rwa [doneE_getD E e.on false (fun p hp heq => waits_of hoi (hap i p.1 him (hin p hp).1 (hin p hp).2 (by have := (hin p hp).1; omega)).1 e he hb heq.symm)] at h1
      cases f with
      | zero =>
        rw [hend done a hH, List.mem_range'_1] at hrd
        omega
      | succ f =>
        rcases hH.2 i hrd with h0 | ⟨hlt, o, v, ho, hy, hKK⟩
        · omega
        · have eo : o = oi := Option.some.inj (ho.symm.trans hoi)
          subst eo
          have hso : ∀ cs b, o.op ≠ .select cs b := fun cs b => Region.noSelect_spec hsel i o cs b ho
          have hapE : ∀ p ∈ E, (∀ d, ds p.1 = some d → d ∉ o.looksAt ops) ∧ (∀ t, o.dst = some t → ds p.1 ≠ some t) := by
            intro p hp
            obtain ⟨q, hq, hqd, _⟩ := hA p.1 (hin p hp).1 (hin p hp).2
            have h4 := Oper.apart_spec ((hap i p.1 him (hin p hp).1 (hin p hp).2 (by have := (hin p hp).1; omega)).2 o q ho hq)
            rw [hqd] at h4
            exact ⟨h4.2.2, h4.2.1⟩
          have hyE : ∀ (E' : List (Nat × Nat)) (b : Act), (∀ p ∈ E', ∀ d, ds p.1 = some d → d ∉ o.looksAt ops) → YK P ops W o v b → YK P ops W o v (putE ds E' b) := by
            intro E'
            induction E' with
            | nil => intro b _ h; exact h
            | cons p E' ih2 =>
              intro b hb h
              exact ih2 _ (fun q hq => hb q (List.mem_cons_of_mem _ hq)) (h.same (execOp_put o hso b _ _ (hb p List.mem_cons_self)) (wanted_put o b _ _ (hb p List.mem_cons_self)))
          have hy' := hyE E a (fun p hp => (hapE p hp).1) hy
          -- the step itself
          have hstep : wpOp P ops Q i (wpAny P md ops Q (N + g) ((doneE E done).setIfInBounds i true)) (putE ds E a) w := by
            unfold Go.wpOp
            simp only [ho]
            have hnext : ∀ w', Below w.heap.size w w' → wpAny P md ops Q (N + g) ((doneE E done).setIfInBounds i true) ((putE ds E a).put o.dst v) w' := by
              intro w' hb
              rw [doneE_set E i hiE, putE_put ds E o.dst v (fun p hp => (hapE p hp).2)]
              refine ih f E (done.setIfInBounds i true) (a.put o.dst v) w' (by omega) hnd hin hlen (by simpa using hsz) ?_ hKK (hK.next hb)
              rw [← doneE_set E i hiE]
              exact inv.set hi him
            rcases hy' with ⟨hw, hv⟩ | ⟨hw, rfl⟩
            · rw [if_pos hw]
              refine .inl ?_
              have hk := hv ⟨w, hK.keep⟩
              unfold keepAt at hk
              unfold Oper.wp
              simp only at hk
              generalize (execOp (putE ds E a).eval o).run P w = r at *
              cases r with
              | ok x w' =>
                cases x <;> simp only [keepUpon] at hk <;> simp only [Oper.upon]
                case value u =>
                  obtain ⟨e1, e2⟩ := hk
                  rw [e1, e2]
                  exact hnext w (Below.refl _ _)
                case skip =>
                  obtain ⟨e1, e2⟩ := hk
                  rw [e1, ← e2]
                  exact hnext w (Below.refl _ _)
                case enter f args =>
                  obtain ⟨e1, hcl⟩ := hk
                  rw [e1]
                  exact hcl.mono fun e w'' ⟨he, hb⟩ => by subst he; exact hnext w'' hb
              | halt x w' => simp only [keepUpon] at hk
            · rw [if_neg (by rw [hw]; exact Bool.false_ne_true)]
              exact hnext w (Below.refl _ _)
          exact hstep

end
end Go.Proofs.YtmhfmhmpoobmlaaGreatDoor

/- Plain arithmetic for the numbers modulo 2^255 - 19: five parts of 51 bits, congruence, masks and shifts as remainders and quotients. -/
namespace Go.Proofs.YtmhfmhmpoobmlaaGreatDoor
open Go.RowKit

theorem hide {p : Prop} (h : p) : Hid p := h

def Pm : Int := 57896044618658097711785492504343953926634992332820282019728792003956564819949

/-- Congruence modulo the prime. -/
def Cg (x y : Int) : Prop := ∃ k : Int, x = y + k * Pm

theorem Cg.refl (x : Int) : Cg x x := ⟨0, by omega⟩
theorem Cg.of_eq {x y : Int} (h : x = y) : Cg x y := ⟨0, by omega⟩
theorem Cg.symm {x y : Int} (h : Cg x y) : Cg y x := by
  obtain ⟨k, h⟩ := h
  exact ⟨-k, by rw [h, Int.neg_mul]; omega⟩
theorem Cg.trans {x y z : Int} (h : Cg x y) (g : Cg y z) : Cg x z := by
  obtain ⟨k, h⟩ := h
  obtain ⟨l, g⟩ := g
  exact ⟨k + l, by rw [h, g, Int.add_mul]; omega⟩
theorem Cg.add {x y u v : Int} (h : Cg x y) (g : Cg u v) : Cg (x + u) (y + v) := by
  obtain ⟨k, h⟩ := h
  obtain ⟨l, g⟩ := g
  exact ⟨k + l, by rw [h, g, Int.add_mul]; omega⟩
theorem Cg.neg {x y : Int} (h : Cg x y) : Cg (-x) (-y) := by
  obtain ⟨k, h⟩ := h
  exact ⟨-k, by rw [h, Int.neg_mul]; omega⟩
theorem Cg.sub {x y u v : Int} (h : Cg x y) (g : Cg u v) : Cg (x - u) (y - v) := by
  have := h.add g.neg
  simpa [Int.sub_eq_add_neg] using this
theorem Cg.mul {x y u v : Int} (h : Cg x y) (g : Cg u v) : Cg (x * u) (y * v) := by
  obtain ⟨k, h⟩ := h
  obtain ⟨l, g⟩ := g
  refine ⟨y * l + k * v + k * l * Pm, ?_⟩
  rw [h, g]
  simp only [Int.add_mul, Int.mul_add, Int.mul_assoc, Int.mul_comm Pm, Int.mul_left_comm]
  have e : k * (Pm * v) = k * (v * Pm) := by rw [Int.mul_comm Pm]
  omega
theorem Cg.emod {x y : Int} (h : Cg x y) : x % Pm = y % Pm := by
  obtain ⟨k, h⟩ := h
  rw [h, Int.add_mul_emod_self_right]
theorem Cg.of_emod {x y : Int} (h : x % Pm = y % Pm) : Cg x y := by
  refine ⟨x / Pm - y / Pm, ?_⟩
  have a := Int.mul_ediv_add_emod x Pm
  have b := Int.mul_ediv_add_emod y Pm
  rw [Int.sub_mul, Int.mul_comm (x / Pm), Int.mul_comm (y / Pm)]
  omega
theorem cg_emod (x : Int) : Cg (x % Pm) x := Cg.of_emod (Int.emod_emod_of_dvd x (Int.dvd_refl _))
/-- The five parts of a number. -/
structure E5 where
  a : Int
  b : Int
  c : Int
  d : Int
  e : Int

abbrev E5.v (x : E5) : Value := .agg #[.int .u64 x.a, .int .u64 x.b, .int .u64 x.c, .int .u64 x.d, .int .u64 x.e]

def E5.n (x : E5) : Int := x.a + 2251799813685248 * x.b + 5070602400912917605986812821504 * x.c + 11417981541647679048466287755595961091061972992 * x.d + 25711008708143844408671393477458601640355247900524685364822016 * x.e

structure E5.Ok (x : E5) : Prop where
  a0 : 0 ≤ x.a
  a1 : x.a ≤ 2251799813840876
  b0 : 0 ≤ x.b
  b1 : x.b ≤ 2251799813840876
  c0 : 0 ≤ x.c
  c1 : x.c ≤ 2251799813840876
  d0 : 0 ≤ x.d
  d1 : x.d ≤ 2251799813840876
  e0 : 0 ≤ x.e
  e1 : x.e ≤ 2251799813840876

/-- A word of 64 bits. -/
def W64 (x : Int) : Prop := 0 ≤ x ∧ x < 18446744073709551616

theorem and51 {x : Int} (h : W64 x) : bits .and .u64 x 2251799813685247 = x % 2251799813685248 := by
  rw [u64_and x _ h.1 h.2 (by decide) (by decide)]
  have e : (2251799813685247 : Int).toNat = 2251799813685247 := by decide
  rw [e, nat_mask51]
  have := h.1
  omega

theorem wrap64u {x : Int} (h : W64 x) : IntKind.u64.wrap x = x := by
  rw [IntKind.wrap_u64]
  exact Int.emod_eq_of_lt h.1 h.2

theorem or_join (i K : Nat) (hK : K = 2 ^ i) {x y : Int} (hx : W64 x) (hy : W64 y) (h1 : x % (K : Int) = 0) (h2 : y < (K : Int)) : bits .or .u64 x y = x + y := by
  rw [u64_or x y hx.1 hx.2 hy.1 hy.2]
  have a := hx.1
  have b := hy.1
  obtain ⟨X, rfl⟩ := Int.eq_ofNat_of_zero_le a
  obtain ⟨Y, rfl⟩ := Int.eq_ofNat_of_zero_le b
  simp only [Int.toNat_natCast]
  have h1' : X % K = 0 := by exact_mod_cast h1
  have h2' : Y < K := by omega
  subst hK
  rw [nat_join i X Y h1' h2']
  omega

theorem or_join' (i K : Nat) (hK : K = 2 ^ i) {x y : Int} (hx : W64 x) (hy : W64 y) (h1 : y % (K : Int) = 0) (h2 : x < (K : Int)) : bits .or .u64 x y = x + y := by
  rw [u64_or x y hx.1 hx.2 hy.1 hy.2]
  have a := hx.1
  have b := hy.1
  obtain ⟨X, rfl⟩ := Int.eq_ofNat_of_zero_le a
  obtain ⟨Y, rfl⟩ := Int.eq_ofNat_of_zero_le b
  simp only [Int.toNat_natCast]
  have h1' : Y % K = 0 := by exact_mod_cast h1
  have h2' : X < K := by omega
  subst hK
  rw [Nat.or_comm, nat_join i Y X h1' h2']
  omega

/-- What is left when each part's bits above the 51st go on to the next one, the last one's by 19 to the first. -/
def car (a b c d e : Int) : E5 := ⟨a % 2251799813685248 + e / 2251799813685248 * 19, b % 2251799813685248 + a / 2251799813685248, c % 2251799813685248 + b / 2251799813685248, d % 2251799813685248 + c / 2251799813685248, e % 2251799813685248 + d / 2251799813685248⟩

theorem car_ok {a b c d e : Int} (ha : W64 a) (hb : W64 b) (hc : W64 c) (hd : W64 d) (he : W64 e) : (car a b c d e).Ok := by
  unfold W64 at *
  constructor <;> simp only [car] <;> omega

theorem car_n (a b c d e : Int) : Cg (car a b c d e).n (E5.n ⟨a, b, c, d, e⟩) := by
  refine ⟨- (e / 2251799813685248), ?_⟩
  simp only [car, E5.n, Pm]
  omega

def addF (x y : E5) : E5 := car (x.a + y.a) (x.b + y.b) (x.c + y.c) (x.d + y.d) (x.e + y.e)
def subF (x y : E5) : E5 := car (x.a + 4503599627370458 - y.a) (x.b + 4503599627370494 - y.b) (x.c + 4503599627370494 - y.c) (x.d + 4503599627370494 - y.d) (x.e + 4503599627370494 - y.e)
def zeroE : E5 := ⟨0, 0, 0, 0, 0⟩
def negF (x : E5) : E5 := subF zeroE x
def smallF (n : Int) : E5 := car n 0 0 0 0

theorem zeroE_ok : zeroE.Ok := ⟨by decide, by decide, by decide, by decide, by decide, by decide, by decide, by decide, by decide, by decide⟩
theorem zeroE_n : zeroE.n = 0 := by decide

theorem addF_ok {x y : E5} (hx : x.Ok) (hy : y.Ok) : (addF x y).Ok := by
  obtain ⟨a0, a1, b0, b1, c0, c1, d0, d1, e0, e1⟩ := hx
  obtain ⟨f0, f1, g0, g1, h0, h1, i0, i1, j0, j1⟩ := hy
  exact car_ok ⟨by omega, by omega⟩ ⟨by omega, by omega⟩ ⟨by omega, by omega⟩ ⟨by omega, by omega⟩ ⟨by omega, by omega⟩
theorem addF_n (x y : E5) : Cg (addF x y).n (x.n + y.n) := (car_n _ _ _ _ _).trans (Cg.of_eq (by simp only [E5.n]; omega))
theorem subF_ok {x y : E5} (hx : x.Ok) (hy : y.Ok) : (subF x y).Ok := by
  obtain ⟨a0, a1, b0, b1, c0, c1, d0, d1, e0, e1⟩ := hx
  obtain ⟨f0, f1, g0, g1, h0, h1, i0, i1, j0, j1⟩ := hy
  exact car_ok ⟨by omega, by omega⟩ ⟨by omega, by omega⟩ ⟨by omega, by omega⟩ ⟨by omega, by omega⟩ ⟨by omega, by omega⟩
theorem subF_n (x y : E5) : Cg (subF x y).n (x.n - y.n) := (car_n _ _ _ _ _).trans ⟨2, by simp only [E5.n, Pm]; omega⟩
theorem negF_ok {x : E5} (hx : x.Ok) : (negF x).Ok := subF_ok zeroE_ok hx
theorem negF_n (x : E5) : Cg (negF x).n (- x.n) := (subF_n _ _).trans (Cg.of_eq (by rw [zeroE_n]; omega))
theorem smallF_ok {n : Int} (h0 : 0 ≤ n) (h1 : n < 4294967296) : (smallF n).Ok := car_ok ⟨by omega, by omega⟩ ⟨by decide, by decide⟩ ⟨by decide, by decide⟩ ⟨by decide, by decide⟩ ⟨by decide, by decide⟩
theorem smallF_n (n : Int) : Cg (smallF n).n n := (car_n _ _ _ _ _).trans (Cg.of_eq (by simp only [E5.n]; omega))

/-- The five sums of products; those that come round from above, by 19. -/
def m0 (x y : E5) : Int := x.a * y.a + x.b * (y.e * 19) + x.c * (y.d * 19) + x.d * (y.c * 19) + x.e * (y.b * 19)
def m1 (x y : E5) : Int := x.a * y.b + x.b * y.a + x.c * (y.e * 19) + x.d * (y.d * 19) + x.e * (y.c * 19)
def m2 (x y : E5) : Int := x.a * y.c + x.b * y.b + x.c * y.a + x.d * (y.e * 19) + x.e * (y.d * 19)
def m3 (x y : E5) : Int := x.a * y.d + x.b * y.c + x.c * y.b + x.d * y.a + x.e * (y.e * 19)
def m4 (x y : E5) : Int := x.a * y.e + x.b * y.d + x.c * y.c + x.d * y.b + x.e * y.a
def mulF (x y : E5) : E5 := car (m0 x y % 2251799813685248 + m4 x y / 2251799813685248 * 19) (m1 x y % 2251799813685248 + m0 x y / 2251799813685248) (m2 x y % 2251799813685248 + m1 x y / 2251799813685248) (m3 x y % 2251799813685248 + m2 x y / 2251799813685248) (m4 x y % 2251799813685248 + m3 x y / 2251799813685248)

/-- A product of two parts is not below 0 and has a bound. -/
theorem mb {a b : Int} (a0 : 0 ≤ a) (a1 : a ≤ 2251799813840876) (b0 : 0 ≤ b) (b1 : b ≤ 42784196462976644) : 0 ≤ a * b ∧ a * b ≤ 96341445630662272367569520500144 :=
  ⟨Int.mul_nonneg a0 b0, Int.le_trans (Int.mul_le_mul a1 b1 b0 (by decide)) (by decide)⟩

structure MB (x y : E5) : Prop where
  aa : 0 ≤ x.a * y.a ∧ x.a * y.a ≤ 96341445630662272367569520500144
  ab : 0 ≤ x.a * y.b ∧ x.a * y.b ≤ 96341445630662272367569520500144
  ac : 0 ≤ x.a * y.c ∧ x.a * y.c ≤ 96341445630662272367569520500144
  ad : 0 ≤ x.a * y.d ∧ x.a * y.d ≤ 96341445630662272367569520500144
  ae : 0 ≤ x.a * y.e ∧ x.a * y.e ≤ 96341445630662272367569520500144
  ba : 0 ≤ x.b * y.a ∧ x.b * y.a ≤ 96341445630662272367569520500144
  bb : 0 ≤ x.b * y.b ∧ x.b * y.b ≤ 96341445630662272367569520500144
  bc : 0 ≤ x.b * y.c ∧ x.b * y.c ≤ 96341445630662272367569520500144
  bd : 0 ≤ x.b * y.d ∧ x.b * y.d ≤ 96341445630662272367569520500144
  be : 0 ≤ x.b * y.e ∧ x.b * y.e ≤ 96341445630662272367569520500144
  ca : 0 ≤ x.c * y.a ∧ x.c * y.a ≤ 96341445630662272367569520500144
  cb : 0 ≤ x.c * y.b ∧ x.c * y.b ≤ 96341445630662272367569520500144
  cc : 0 ≤ x.c * y.c ∧ x.c * y.c ≤ 96341445630662272367569520500144
  cd : 0 ≤ x.c * y.d ∧ x.c * y.d ≤ 96341445630662272367569520500144
  ce : 0 ≤ x.c * y.e ∧ x.c * y.e ≤ 96341445630662272367569520500144
  da : 0 ≤ x.d * y.a ∧ x.d * y.a ≤ 96341445630662272367569520500144
  db : 0 ≤ x.d * y.b ∧ x.d * y.b ≤ 96341445630662272367569520500144
  dc : 0 ≤ x.d * y.c ∧ x.d * y.c ≤ 96341445630662272367569520500144
  dd : 0 ≤ x.d * y.d ∧ x.d * y.d ≤ 96341445630662272367569520500144
  de : 0 ≤ x.d * y.e ∧ x.d * y.e ≤ 96341445630662272367569520500144
  ea : 0 ≤ x.e * y.a ∧ x.e * y.a ≤ 96341445630662272367569520500144
  eb : 0 ≤ x.e * y.b ∧ x.e * y.b ≤ 96341445630662272367569520500144
  ec : 0 ≤ x.e * y.c ∧ x.e * y.c ≤ 96341445630662272367569520500144
  ed : 0 ≤ x.e * y.d ∧ x.e * y.d ≤ 96341445630662272367569520500144
  ee : 0 ≤ x.e * y.e ∧ x.e * y.e ≤ 96341445630662272367569520500144
  bb' : 0 ≤ x.b * (y.b * 19) ∧ x.b * (y.b * 19) ≤ 96341445630662272367569520500144
  bc' : 0 ≤ x.b * (y.c * 19) ∧ x.b * (y.c * 19) ≤ 96341445630662272367569520500144
  bd' : 0 ≤ x.b * (y.d * 19) ∧ x.b * (y.d * 19) ≤ 96341445630662272367569520500144
  be' : 0 ≤ x.b * (y.e * 19) ∧ x.b * (y.e * 19) ≤ 96341445630662272367569520500144
  cb' : 0 ≤ x.c * (y.b * 19) ∧ x.c * (y.b * 19) ≤ 96341445630662272367569520500144
  cc' : 0 ≤ x.c * (y.c * 19) ∧ x.c * (y.c * 19) ≤ 96341445630662272367569520500144
  cd' : 0 ≤ x.c * (y.d * 19) ∧ x.c * (y.d * 19) ≤ 96341445630662272367569520500144
  ce' : 0 ≤ x.c * (y.e * 19) ∧ x.c * (y.e * 19) ≤ 96341445630662272367569520500144
  db' : 0 ≤ x.d * (y.b * 19) ∧ x.d * (y.b * 19) ≤ 96341445630662272367569520500144
  dc' : 0 ≤ x.d * (y.c * 19) ∧ x.d * (y.c * 19) ≤ 96341445630662272367569520500144
  dd' : 0 ≤ x.d * (y.d * 19) ∧ x.d * (y.d * 19) ≤ 96341445630662272367569520500144
  de' : 0 ≤ x.d * (y.e * 19) ∧ x.d * (y.e * 19) ≤ 96341445630662272367569520500144
  eb' : 0 ≤ x.e * (y.b * 19) ∧ x.e * (y.b * 19) ≤ 96341445630662272367569520500144
  ec' : 0 ≤ x.e * (y.c * 19) ∧ x.e * (y.c * 19) ≤ 96341445630662272367569520500144
  ed' : 0 ≤ x.e * (y.d * 19) ∧ x.e * (y.d * 19) ≤ 96341445630662272367569520500144
  ee' : 0 ≤ x.e * (y.e * 19) ∧ x.e * (y.e * 19) ≤ 96341445630662272367569520500144

theorem MB.of {x y : E5} (hx : x.Ok) (hy : y.Ok) : MB x y := ⟨mb hx.a0 hx.a1 hy.a0 (by have := hy.a1; omega), mb hx.a0 hx.a1 hy.b0 (by have := hy.b1; omega), mb hx.a0 hx.a1 hy.c0 (by have := hy.c1; omega), mb hx.a0 hx.a1 hy.d0 (by have := hy.d1; omega), mb hx.a0 hx.a1 hy.e0 (by have := hy.e1; omega), mb hx.b0 hx.b1 hy.a0 (by have := hy.a1; omega), mb hx.b0 hx.b1 hy.b0 (by have := hy.b1; omega), mb hx.b0 hx.b1 hy.c0 (by have := hy.c1; omega), mb hx.b0 hx.b1 hy.d0 (by have := hy.d1; omega), mb hx.b0 hx.b1 hy.e0 (by have := hy.e1; omega), mb hx.c0 hx.c1 hy.a0 (by have := hy.a1; omega), mb hx.c0 hx.c1 hy.b0 (by have := hy.b1; omega), mb hx.c0 hx.c1 hy.c0 (by have := hy.c1; omega), mb hx.c0 hx.c1 hy.d0 (by have := hy.d1; omega), mb hx.c0 hx.c1 hy.e0 (by have := hy.e1; omega), mb hx.d0 hx.d1 hy.a0 (by have := hy.a1; omega), mb hx.d0 hx.d1 hy.b0 (by have := hy.b1; omega), mb hx.d0 hx.d1 hy.c0 (by have := hy.c1; omega), mb hx.d0 hx.d1 hy.d0 (by have := hy.d1; omega), mb hx.d0 hx.d1 hy.e0 (by have := hy.e1; omega), mb hx.e0 hx.e1 hy.a0 (by have := hy.a1; omega), mb hx.e0 hx.e1 hy.b0 (by have := hy.b1; omega), mb hx.e0 hx.e1 hy.c0 (by have := hy.c1; omega), mb hx.e0 hx.e1 hy.d0 (by have := hy.d1; omega), mb hx.e0 hx.e1 hy.e0 (by have := hy.e1; omega), mb hx.b0 hx.b1 (by have := hy.b0; omega) (by have := hy.b1; omega), mb hx.b0 hx.b1 (by have := hy.c0; omega) (by have := hy.c1; omega), mb hx.b0 hx.b1 (by have := hy.d0; omega) (by have := hy.d1; omega), mb hx.b0 hx.b1 (by have := hy.e0; omega) (by have := hy.e1; omega), mb hx.c0 hx.c1 (by have := hy.b0; omega) (by have := hy.b1; omega), mb hx.c0 hx.c1 (by have := hy.c0; omega) (by have := hy.c1; omega), mb hx.c0 hx.c1 (by have := hy.d0; omega) (by have := hy.d1; omega), mb hx.c0 hx.c1 (by have := hy.e0; omega) (by have := hy.e1; omega), mb hx.d0 hx.d1 (by have := hy.b0; omega) (by have := hy.b1; omega), mb hx.d0 hx.d1 (by have := hy.c0; omega) (by have := hy.c1; omega), mb hx.d0 hx.d1 (by have := hy.d0; omega) (by have := hy.d1; omega), mb hx.d0 hx.d1 (by have := hy.e0; omega) (by have := hy.e1; omega), mb hx.e0 hx.e1 (by have := hy.b0; omega) (by have := hy.b1; omega), mb hx.e0 hx.e1 (by have := hy.c0; omega) (by have := hy.c1; omega), mb hx.e0 hx.e1 (by have := hy.d0; omega) (by have := hy.d1; omega), mb hx.e0 hx.e1 (by have := hy.e0; omega) (by have := hy.e1; omega)⟩

structure MS (x y : E5) : Prop where
  s0 : 0 ≤ m0 x y ∧ m0 x y ≤ 481707228153311361837847602500720
  s1 : 0 ≤ m1 x y ∧ m1 x y ≤ 481707228153311361837847602500720
  s2 : 0 ≤ m2 x y ∧ m2 x y ≤ 481707228153311361837847602500720
  s3 : 0 ≤ m3 x y ∧ m3 x y ≤ 481707228153311361837847602500720
  s4 : 0 ≤ m4 x y ∧ m4 x y ≤ 481707228153311361837847602500720

theorem MS.of {x y : E5} (hx : x.Ok) (hy : y.Ok) : MS x y := by
  have B := MB.of hx hy
  refine ⟨?_, ?_, ?_, ?_, ?_⟩
  · unfold m0; have := B.aa; have := B.be'; have := B.cd'; have := B.dc'; have := B.eb'; omega
  · unfold m1; have := B.ab; have := B.ba; have := B.ce'; have := B.dd'; have := B.ec'; omega
  · unfold m2; have := B.ac; have := B.bb; have := B.ca; have := B.de'; have := B.ed'; omega
  · unfold m3; have := B.ad; have := B.bc; have := B.cb; have := B.da; have := B.ee'; omega
  · unfold m4; have := B.ae; have := B.bd; have := B.cc; have := B.db; have := B.ea; omega

theorem mulF_ok {x y : E5} (hx : x.Ok) (hy : y.Ok) : (mulF x y).Ok := by
  obtain ⟨h0, h1, h2, h3, h4⟩ := MS.of hx hy
  unfold mulF
  generalize m0 x y = n0 at *
  generalize m1 x y = n1 at *
  generalize m2 x y = n2 at *
  generalize m3 x y = n3 at *
  generalize m4 x y = n4 at *
  exact car_ok ⟨by omega, by omega⟩ ⟨by omega, by omega⟩ ⟨by omega, by omega⟩ ⟨by omega, by omega⟩ ⟨by omega, by omega⟩

theorem mul19 (p q : Int) : p * (q * 19) = 19 * (p * q) := by rw [← Int.mul_assoc, Int.mul_comm]

theorem mulF_n (x y : E5) : Cg (mulF x y).n (x.n * y.n) := by
  refine (car_n _ _ _ _ _).trans ?_
  have he : Cg (E5.n ⟨m0 x y % 2251799813685248 + m4 x y / 2251799813685248 * 19, m1 x y % 2251799813685248 + m0 x y / 2251799813685248, m2 x y % 2251799813685248 + m1 x y / 2251799813685248, m3 x y % 2251799813685248 + m2 x y / 2251799813685248, m4 x y % 2251799813685248 + m3 x y / 2251799813685248⟩) (E5.n ⟨m0 x y, m1 x y, m2 x y, m3 x y, m4 x y⟩) := by
    refine ⟨- (m4 x y / 2251799813685248), ?_⟩
    simp only [E5.n, Pm]
    omega
  refine he.trans ?_
  clear he
  obtain ⟨a, b, c, d, e⟩ := x
  obtain ⟨f, g, h, i, j⟩ := y
  refine ⟨- (b * j + c * i + d * h + e * g) - 2251799813685248 * (c * j + d * i + e * h) - 5070602400912917605986812821504 * (d * j + e * i) - 11417981541647679048466287755595961091061972992 * (e * j), ?_⟩
  obtain ⟨X, hX⟩ : ∃ X, X = E5.n ⟨a, b, c, d, e⟩ * E5.n ⟨f, g, h, i, j⟩ := ⟨_, rfl⟩
  rw [← hX]
  simp only [E5.n, Int.add_mul, Int.mul_add, Int.mul_assoc, Int.mul_left_comm a (2251799813685248 : Int), Int.mul_left_comm a (5070602400912917605986812821504 : Int), Int.mul_left_comm a (11417981541647679048466287755595961091061972992 : Int), Int.mul_left_comm a (25711008708143844408671393477458601640355247900524685364822016 : Int), Int.mul_left_comm b (2251799813685248 : Int), Int.mul_left_comm b (5070602400912917605986812821504 : Int), Int.mul_left_comm b (11417981541647679048466287755595961091061972992 : Int), Int.mul_left_comm b (25711008708143844408671393477458601640355247900524685364822016 : Int), Int.mul_left_comm c (2251799813685248 : Int), Int.mul_left_comm c (5070602400912917605986812821504 : Int), Int.mul_left_comm c (11417981541647679048466287755595961091061972992 : Int), Int.mul_left_comm c (25711008708143844408671393477458601640355247900524685364822016 : Int), Int.mul_left_comm d (2251799813685248 : Int), Int.mul_left_comm d (5070602400912917605986812821504 : Int), Int.mul_left_comm d (11417981541647679048466287755595961091061972992 : Int), Int.mul_left_comm d (25711008708143844408671393477458601640355247900524685364822016 : Int), Int.mul_left_comm e (2251799813685248 : Int), Int.mul_left_comm e (5070602400912917605986812821504 : Int), Int.mul_left_comm e (11417981541647679048466287755595961091061972992 : Int), Int.mul_left_comm e (25711008708143844408671393477458601640355247900524685364822016 : Int)] at hX
  simp only [E5.n, m0, m1, m2, m3, m4, mul19, Pm]
  omega

end Go.Proofs.YtmhfmhmpoobmlaaGreatDoor

/- Arrays of words in memory, told by a function of the place. -/
namespace Go.Proofs.YtmhfmhmpoobmlaaGreatDoor
open Go.RowKit

/-- The n words f 0, f 1, .. as a value's cells. -/
def arr (n : Nat) (f : Nat → Int) : Array Value := ((List.range n).map fun i => Value.int .u64 (f i)).toArray

theorem arr_size (n : Nat) (f : Nat → Int) : (arr n f).size = n := by simp [arr]
theorem arr_get (n : Nat) (f : Nat → Int) (i : Nat) (h : i < n) : (arr n f)[i]? = some (.int .u64 (f i)) := by simp [arr, h]
theorem arr_congr {n : Nat} {f g : Nat → Int} (h : ∀ i, i < n → f i = g i) : arr n f = arr n g := by
  unfold arr
  congr 1
  exact List.map_congr_left fun i hi => by rw [h i (List.mem_range.1 hi)]
def upd (f : Nat → Int) (k : Nat) (v : Int) : Nat → Int := fun i => if i = k then v else f i
theorem arr_set (n : Nat) (f : Nat → Int) (k : Nat) (v : Int) : (arr n f).setIfInBounds k (.int .u64 v) = arr n (upd f k v) := by
  apply Array.ext_getElem?
  intro i
  by_cases hi : i < n
  · rw [Array.getElem?_setIfInBounds, arr_get n (upd f k v) i hi]
    by_cases hk : k = i
    · subst hk
      rw [if_pos rfl, if_pos (by rw [arr_size]; exact hi)]
      simp [upd]
    · have : ¬ i = k := fun h => hk h.symm
      rw [if_neg hk, arr_get n f i hi]
      simp [upd, this]
  · rw [Array.getElem?_eq_none (by simp [arr_size]; omega), Array.getElem?_eq_none (by simp [arr_size]; omega)]

/-- Block g holds the words f 0 .. f (n - 1). -/
def Row (w : World) (g : Nat) (T : TypeId) (n : Nat) (f : Nat → Int) : Prop := w.heap[g]? = some (.cells (arr n f) T (0, 0))

theorem Row.lt {w : World} {g : Nat} {T : TypeId} {n : Nat} {f : Nat → Int} (h : Row w g T n f) : g < w.heap.size := by
  by_cases hlt : g < w.heap.size
  · exact hlt
  · have hn : w.heap[g]? = none := by simp; omega
    rw [Row, hn] at h
    cases h
theorem Row.cell {w : World} {g : Nat} {T : TypeId} {n : Nat} {f : Nat → Int} (h : Row w g T n f) {i : Nat} (hi : i < n) : w.cell? ⟨g, i, none⟩ = some (.int .u64 (f i)) := by
  rw [cell_of_row w g i (arr n f) T (0, 0) h, arr_get n f i hi]
theorem Row.free {w : World} {g : Nat} {T : TypeId} {n : Nat} {f : Nat → Int} (h : Row w g T n f) (i : Nat) : w.frozen? ⟨g, i, none⟩ = false := frozen_of_row w g i (arr n f) T h
theorem Row.set {w : World} {g : Nat} {T : TypeId} {n : Nat} {f : Nat → Int} (h : Row w g T n f) (k : Nat) (v : Int) : Row (w.setCell ⟨g, k, none⟩ (.int .u64 v)) g T n (upd f k v) := by
  unfold Row
  rw [heap_setCell_same w g k (arr n f) T _ h, arr_set]
theorem Row.other {w : World} {g : Nat} {T : TypeId} {n : Nat} {f : Nat → Int} (h : Row w g T n f) {a : Addr} (ha : g ≠ a.block) (v : Value) : Row (w.setCell a v) g T n f := by
  unfold Row
  rw [heap_setCell_other w a g v ha]
  exact h
theorem Row.keep {w w' : World} {g : Nat} {T : TypeId} {n : Nat} {f : Nat → Int} (h : Row w g T n f) (hb : Below w.heap.size w w') : Row w' g T n f := by
  unfold Row
  rw [hb.block g h.lt]
  exact h
theorem Row.alloc {w : World} {g : Nat} {T : TypeId} {n : Nat} {f : Nat → Int} (h : Row w g T n f) (o : Obj) : Row (w.alloc o) g T n f := h.keep ((Below.refl _ _).alloc (Nat.le_refl _) _)
theorem Row.congr {w : World} {g : Nat} {T : TypeId} {n : Nat} {f f' : Nat → Int} (h : Row w g T n f) (e : ∀ i, i < n → f i = f' i) : Row w g T n f' := by
  unfold Row
  rw [← arr_congr e]
  exact h
theorem Row.new (w : World) (T : TypeId) (n : Nat) (f : Nat → Int) : Row (w.alloc (.cells (arr n f) T)) w.heap.size T n f := heap_alloc_new w _
theorem Row.new' (w : World) (T : TypeId) (n : Nat) (f : Nat → Int) {g : Nat} (hg : g = w.heap.size) : Row (w.alloc (.cells (arr n f) T)) g T n f := by
  subst hg
  exact heap_alloc_new w _

end Go.Proofs.YtmhfmhmpoobmlaaGreatDoor

/- A whole array stored into its block; a whole array loaded and handed back. -/
namespace Go.Proofs.YtmhfmhmpoobmlaaGreatDoor
open Go.RowKit

def setAll (cs : Array Value) : Nat → List Value → Array Value
  | _, [] => cs
  | o, v :: vs => setAll (cs.setIfInBounds o v) (o + 1) vs

theorem setAll_get (vs : List Value) : ∀ (cs : Array Value) (o i : Nat), o + vs.length ≤ cs.size → (setAll cs o vs)[i]? = if o ≤ i ∧ i < o + vs.length then vs[i - o]? else cs[i]? := by
  induction vs with
  | nil =>
    intro cs o i _
    simp only [setAll, List.length_nil]
    rw [if_neg (by omega)]
  | cons v vs ih =>
    intro cs o i h
    simp only [List.length_cons] at h
    simp only [setAll, List.length_cons]
    rw [ih _ _ _ (by simp; omega)]
    by_cases h1 : o + 1 ≤ i ∧ i < o + 1 + vs.length
    · rw [if_pos h1, if_pos (by omega), show i - o = (i - (o + 1)) + 1 by omega, List.getElem?_cons_succ]
    · rw [if_neg h1]
      by_cases h2 : i = o
      · subst h2
        rw [if_pos (by omega), Nat.sub_self, Array.getElem?_setIfInBounds]
        simp
        omega
      · rw [if_neg (by omega), Array.getElem?_setIfInBounds_ne (by omega)]

theorem heap_setCells (g : Nat) (T : TypeId) (vs : List Value) : ∀ (W : World) (cs : Array Value) (o : Nat), W.heap[g]? = some (.cells cs T (0, 0)) → (W.setCells g o vs).heap[g]? = some (.cells (setAll cs o vs) T (0, 0)) := by
  induction vs with
  | nil => intro W cs o h; exact h
  | cons v vs ih =>
    intro W cs o h
    exact ih _ _ _ (heap_setCell_same W g o cs T v h)

theorem heap_setCells_other (g k : Nat) (hk : k ≠ g) (vs : List Value) : ∀ (W : World) (o : Nat), (W.setCells g o vs).heap[k]? = W.heap[k]? := by
  induction vs with
  | nil => intro W o; rfl
  | cons v vs ih =>
    intro W o
    exact (ih _ _).trans (heap_setCell_other W ⟨g, o, none⟩ k v hk)

theorem below_setCells {B g : Nat} (hg : B ≤ g) (vs : List Value) : ∀ {w W : World} (o : Nat), Below B w W → Below B w (W.setCells g o vs) := by
  induction vs with
  | nil => intro w W o h; exact h
  | cons v vs ih =>
    intro w W o h
    exact ih (o + 1) (h.setCell (p := ⟨g, o, none⟩) hg v)

theorem Row.setAll {W : World} {g : Nat} {T : TypeId} {n : Nat} {f : Nat → Int} (h : Row W g T n f) (h' : Nat → Int) : Row (W.setCells g 0 (arr n h').toList) g T n h' := by
  unfold Row
  rw [heap_setCells g T _ W (arr n f) 0 h]
  congr 2
  apply Array.ext_getElem?
  intro i
  rw [setAll_get _ _ _ _ (by simp [arr_size])]
  by_cases hi : i < n
  · rw [if_pos (by simp [arr_size]; omega)]
    simp
  · rw [if_neg (by simp [arr_size]; omega), Array.getElem?_eq_none (by rw [arr_size]; omega), Array.getElem?_eq_none (by rw [arr_size]; omega)]

theorem Row.setOther {W : World} {g k : Nat} {T : TypeId} {n : Nat} {f : Nat → Int} (h : Row W g T n f) (hk : g ≠ k) (o : Nat) (vs : List Value) : Row (W.setCells k o vs) g T n f := by
  unfold Row
  rw [heap_setCells_other k g hk]
  exact h

theorem Row.there {W : World} {g : Nat} {T : TypeId} {n : Nat} {f : Nat → Int} (h : Row W g T n f) : W.there g 0 n := fun j hj => by
  rw [Nat.zero_add, h.cell hj]
  exact ⟨rfl, h.free j⟩

theorem arr_one (n : Nat) (f : Nat → Int) : (arr n f).all (·.oneCell') = true := by
  rw [Array.all_eq_true]
  intro i hi
  have hi' : i < n := by rw [arr_size] at hi; exact hi
  have h := arr_get n f i hi'
  rw [Array.getElem?_eq_getElem hi] at h
  rw [Option.some.inj h]
  rfl

theorem info36 (f : Nat → Int) : (Tryz.prog.info? 36).map (·.size) = some (arr 16 f).size := by rw [arr_size]; kernel_rfl
end Go.Proofs.YtmhfmhmpoobmlaaGreatDoor

/- A region that draws its order, walked operation by operation in every order; what it leaves is said once. -/
namespace Go.Proofs.YtmhfmhmpoobmlaaGreatDoor
open Go.RowKit

section
variable {P : Program} {ops : Array Oper} {md : Region.Mode} {Q : Exit → Act → World → Prop}

theorem region_cut {id : Nat} {a : Act} {w : World} (R : Act → Act → World → Prop) (hm : P.follows .mixedOrders = true) (h2 : ∀ a' w', R a a' w' → Q .normal a' w')
    (h1 : (∀ a' w', R a a' w' → Q .normal a' w') → wpAny P .any ops Q ops.size (Array.replicate ops.size false) a w.drew) : (Code.region id ops true).wp P Q a w :=
  wp_region_any hm (h1 h2)

theorem ready_step {fuel : Nat} {listed : Array Bool} {a : Act} {w : World} {i : Nat} {o : Oper} {rs : List Nat} (ho : ops[i]? = some o) (hg : o.guard = none)
    (h : o.wp P a w (wpAny P md ops Q fuel (listed.setIfInBounds i true)) Q) (hs : AllReady P md ops Q fuel listed a w rs) : AllReady P md ops Q fuel listed a w (i :: rs) :=
  AllReady.cons ho (fun K' hK => by
    have hw : Region.wanted o (yielded ops a.tmps) = true := by simp [Region.wanted, hg]
    rw [if_pos hw]
    exact Oper.wp_mono hK h) hs

theorem op_load_row {o : Oper} {a : Act} {w : World} {K : Act → World → Prop} (ty : TypeId) (x : Operand) (ho : o.op = .load ty x) (g : Nat) (hx : a.eval x = .pointer (some ⟨g, 0, none⟩)) (t : TypeId) (cs : Array Value) (fr : Nat × Nat) (d : TypeDesc)
    (hg : w.heap[g]? = some (.cells cs t fr)) (hu : P.underlying ty = some d) (hd : (match d with | .struct _ | .array _ _ => true | _ => false) = true) (hi : (P.info? ty).map (·.size) = some cs.size)
    (hk : K (a.put o.dst (.agg cs)) w) : o.wp P a w K Q := by
  unfold Oper.wp execOp
  simp only [ho, hx, Instr.loadAt, Instr.sureAddr, Sem.run_bind, Sem.run_pure, Result.andThen_ok, run_loadVar_row w g t ty cs fr d hg hu hd hi]
  exact hk

theorem op_call {o : Oper} {a : Act} {w : World} {K : Act → World → Prop} {f : FuncId} {args : Array Value} (hrun : (execOp a.eval o).run P w = .ok (.enter f args) w)
    (h : Calls P f args w fun e w' => ∃ v, e = .returned v ∧ K (a.put o.dst v) w') : o.wp P a w K Q := by
  unfold Oper.wp
  rw [hrun]
  exact h.mono fun e w' ⟨v, he, hk⟩ => by subst he; exact hk

theorem ready_load {fuel : Nat} {listed : Array Bool} {a : Act} {w : World} {i : Nat} {o : Oper} {rs : List Nat} (ho : ops[i]? = some o) (hgd : o.guard = none) (ty : TypeId) (x : Operand) (hop : o.op = .load ty x) (g : Nat) (hx : a.eval x = .pointer (some ⟨g, 0, none⟩)) (t : TypeId) (cs : Array Value) (fr : Nat × Nat) (d : TypeDesc)
    (hg : w.heap[g]? = some (.cells cs t fr)) (hu : P.underlying ty = some d) (hd : (match d with | .struct _ | .array _ _ => true | _ => false) = true) (hi : (P.info? ty).map (·.size) = some cs.size)
    (hk : wpAny P md ops Q fuel (listed.setIfInBounds i true) (a.put o.dst (.agg cs)) w) (hs : AllReady P md ops Q fuel listed a w rs) : AllReady P md ops Q fuel listed a w (i :: rs) :=
  ready_step ho hgd (op_load_row ty x hop g hx t cs fr d hg hu hd hi hk) hs

theorem ready_call {fuel : Nat} {listed : Array Bool} {a : Act} {w : World} {i : Nat} {o : Oper} {rs : List Nat} (f : FuncId) (args : Array Value) (ho : ops[i]? = some o) (hgd : o.guard = none) (hrun : (execOp a.eval o).run P w = .ok (.enter f args) w)
    (h : Calls P f args w fun e w' => ∃ v, e = .returned v ∧ wpAny P md ops Q fuel (listed.setIfInBounds i true) (a.put o.dst v) w') (hs : AllReady P md ops Q fuel listed a w rs) : AllReady P md ops Q fuel listed a w (i :: rs) :=
  ready_step ho hgd (op_call hrun h) hs

theorem ready_store {fuel : Nat} {listed : Array Bool} {a : Act} {w : World} {i : Nat} {o : Oper} {rs : List Nat} (ho : ops[i]? = some o) (hgd : o.guard = none) (ty : TypeId) (x y : Operand) (hop : o.op = .store ty x y) (b k : Nat) (cells : Array Value)
    (hx : a.eval x = .pointer (some ⟨b, k, none⟩)) (hy : a.eval y = .agg cells) (ht : w.there b k cells.size) (hi : (P.info? ty).map (·.size) = some cells.size) (h1 : cells.all (·.oneCell') = true)
    (h : wpAny P md ops Q fuel (listed.setIfInBounds i true) (a.put o.dst undef) (w.setCells b k cells.toList)) (hs : AllReady P md ops Q fuel listed a w rs) : AllReady P md ops Q fuel listed a w (i :: rs) :=
  ready_step ho hgd (wp_store_mid ty x y hop b k cells hx hy ht hi h1 h) hs

theorem results_cell_tmp {fn : Func} {p s : Tmp} {ty : TypeId} (h : fn.results = #[.cell p ty, .tmp s]) (tmps : Array Value) (w : World) (g : Nat) (t : TypeId) (cs : Array Value) (fr : Nat × Nat) (d : TypeDesc) (v : Value)
    (hp : tmps.getD p undef = .pointer (some ⟨g, 0, none⟩)) (hs : tmps.getD s undef = v) (hg : w.heap[g]? = some (.cells cs t fr))
    (hu : P.underlying ty = some d) (hd : (match d with | .struct _ | .array _ _ => true | _ => false) = true) (hi : (P.info? ty).map (·.size) = some cs.size) :
    (results fn tmps).run P w = .ok (.tuple #[.agg cs, v]) w := by
  have hp' : tmps[p]?.getD undef = .pointer (some ⟨g, 0, none⟩) := by simpa using hp
  have hs' : tmps[s]?.getD undef = v := by simpa using hs
  simp [results, h, hp', hs', asAddr, run_loadVar_row w g t ty cs fr d hg hu hd hi]

end
end Go.Proofs.YtmhfmhmpoobmlaaGreatDoor

/- Numbers of five parts that lie in memory, and that they stay there. -/
namespace Go.Proofs.YtmhfmhmpoobmlaaGreatDoor
open Go.RowKit

/-- Block g holds the number x. -/
structure EAt (W : World) (g : Nat) (x : E5) : Prop where
  size : g < W.heap.size
  free : ∀ o, W.frozen? ⟨g, o, none⟩ = false
  c0 : W.cell? ⟨g, 0, none⟩ = some (.int .u64 x.a)
  c1 : W.cell? ⟨g, 1, none⟩ = some (.int .u64 x.b)
  c2 : W.cell? ⟨g, 2, none⟩ = some (.int .u64 x.c)
  c3 : W.cell? ⟨g, 3, none⟩ = some (.int .u64 x.d)
  c4 : W.cell? ⟨g, 4, none⟩ = some (.int .u64 x.e)

theorem EAt.keep {W W' : World} {g : Nat} {x : E5} (h : EAt W g x) (hb : Below W.heap.size W W') : EAt W' g x :=
  ⟨Nat.lt_of_lt_of_le h.size hb.size, fun o => (hb.frozen (p := ⟨g, o, none⟩) h.size).trans (h.free o), (hb.cell (p := ⟨g, 0, none⟩) h.size).trans h.c0, (hb.cell (p := ⟨g, 1, none⟩) h.size).trans h.c1, (hb.cell (p := ⟨g, 2, none⟩) h.size).trans h.c2, (hb.cell (p := ⟨g, 3, none⟩) h.size).trans h.c3, (hb.cell (p := ⟨g, 4, none⟩) h.size).trans h.c4⟩

theorem EAt.new (W : World) (x : E5) (T : TypeId) : EAt (W.alloc (.cells #[.int .u64 x.a, .int .u64 x.b, .int .u64 x.c, .int .u64 x.d, .int .u64 x.e] T)) W.heap.size x := by
  refine ⟨by simp, ?_, ?_, ?_, ?_, ?_, ?_⟩ <;> simp [go_sem]

theorem new_below (W : World) (o : Obj) : Below W.heap.size W (W.alloc o) := (Below.refl _ _).alloc (Nat.le_refl _) _

theorem EAt.alloc {W : World} {g : Nat} {x : E5} (h : EAt W g x) (o : Obj) : EAt (W.alloc o) g x := h.keep (new_below W o)

/-- The five cells in every world that keeps W. -/
theorem EAt.k0 {W : World} {g : Nat} {x : E5} (h : EAt W g x) (s : KW W) : s.w.cell? ⟨g, 0, none⟩ = some (.int .u64 x.a) := (h.keep s.keep).c0
theorem EAt.k1 {W : World} {g : Nat} {x : E5} (h : EAt W g x) (s : KW W) : s.w.cell? ⟨g, 1, none⟩ = some (.int .u64 x.b) := (h.keep s.keep).c1
theorem EAt.k2 {W : World} {g : Nat} {x : E5} (h : EAt W g x) (s : KW W) : s.w.cell? ⟨g, 2, none⟩ = some (.int .u64 x.c) := (h.keep s.keep).c2
theorem EAt.k3 {W : World} {g : Nat} {x : E5} (h : EAt W g x) (s : KW W) : s.w.cell? ⟨g, 3, none⟩ = some (.int .u64 x.d) := (h.keep s.keep).c3
theorem EAt.k4 {W : World} {g : Nat} {x : E5} (h : EAt W g x) (s : KW W) : s.w.cell? ⟨g, 4, none⟩ = some (.int .u64 x.e) := (h.keep s.keep).c4

theorem KW.some (W : World) : Nonempty (KW W) := ⟨⟨W, Below.refl _ _⟩⟩

/-- The block g of the result, not yet written; nothing that was there in w has changed. -/
structure Out (w W : World) (g : Nat) : Prop where
  old : Below w.heap.size w W
  ge : w.heap.size ≤ g
  lie : EAt W g zeroE

theorem Out.keep {w W W' : World} {g : Nat} (h : Out w W g) (hb : Below W.heap.size W W') : Out w W' g := ⟨h.old.trans (hb.mono h.old.size), h.ge, h.lie.keep hb⟩

theorem Out.start0 (w : World) : Out w (w.alloc (.cells #[.int .u64 0, .int .u64 0, .int .u64 0, .int .u64 0, .int .u64 0] 58)) w.heap.size := ⟨new_below w _, Nat.le_refl _, EAt.new w zeroE 58⟩

theorem Out.start1 (w : World) (o : Obj) : Out w ((w.alloc o).alloc (.cells #[.int .u64 0, .int .u64 0, .int .u64 0, .int .u64 0, .int .u64 0] 58)) (w.heap.size + 1) := by
  refine ⟨(new_below w o).trans ((new_below (w.alloc o) _).mono (by simp)), by omega, ?_⟩
  have h := EAt.new (w.alloc o) zeroE 58
  rwa [World.size_alloc] at h

theorem EAt.new1 (w : World) (x : E5) (o : Obj) : EAt ((w.alloc (.cells #[.int .u64 x.a, .int .u64 x.b, .int .u64 x.c, .int .u64 x.d, .int .u64 x.e] 58)).alloc o) w.heap.size x := (EAt.new w x 58).alloc o

theorem five {B g : Nat} {w w1 : World} (h : Below B w w1) (hg : B ≤ g) {u0 u1 u2 u3 u4 : Value} :
    Below B w (((((w1.setCell ⟨g, 0, none⟩ u0).setCell ⟨g, 1, none⟩ u1).setCell ⟨g, 2, none⟩ u2).setCell ⟨g, 3, none⟩ u3).setCell ⟨g, 4, none⟩ u4) :=
  ((((h.setCell (p := ⟨g, 0, none⟩) hg u0).setCell (p := ⟨g, 1, none⟩) hg u1).setCell (p := ⟨g, 2, none⟩) hg u2).setCell (p := ⟨g, 3, none⟩) hg u3).setCell (p := ⟨g, 4, none⟩) hg u4

theorem EAt.of_zero {W : World} {g : Nat} (h : W.heap[g]? = some (.cells #[.int .u64 0, .int .u64 0, .int .u64 0, .int .u64 0, .int .u64 0] 58)) : EAt W g zeroE := by
  have hlt : g < W.heap.size := by
    by_cases hlt : g < W.heap.size
    · exact hlt
    · have hn : W.heap[g]? = none := by simp; omega
      rw [hn] at h
      cases h
  refine ⟨hlt, fun o => by simp [World.frozen?, h], ?_, ?_, ?_, ?_, ?_⟩ <;> simp [World.cell?, h, zeroE]

/-- The number z is stored into block g. -/
abbrev put5 (W : World) (g : Nat) (z : E5) : World := ((((W.setCell ⟨g, 0, none⟩ (.int .u64 z.a)).setCell ⟨g, 1, none⟩ (.int .u64 z.b)).setCell ⟨g, 2, none⟩ (.int .u64 z.c)).setCell ⟨g, 3, none⟩ (.int .u64 z.d)).setCell ⟨g, 4, none⟩ (.int .u64 z.e)

theorem EAt.put {W : World} {g : Nat} {x : E5} (h : EAt W g x) (z : E5) : EAt (put5 W g z) g z := by
  obtain ⟨hs, hf, c0, c1, c2, c3, c4⟩ := h
  refine ⟨?_, ?_, ?_, ?_, ?_, ?_, ?_⟩ <;> simp [go_sem, hs, hf, c0, c1, c2, c3, c4]

theorem EAt.other {W : World} {g k : Nat} {x : E5} (h : EAt W g x) (hk : g ≠ k) (z : E5) : EAt (put5 W k z) g x := by
  obtain ⟨hs, hf, c0, c1, c2, c3, c4⟩ := h
  refine ⟨?_, ?_, ?_, ?_, ?_, ?_, ?_⟩ <;> simp [go_sem, hs, hf, c0, c1, c2, c3, c4]

theorem Out.other {w W : World} {g k : Nat} (h : Out w W g) (hk : g ≠ k) (hle : w.heap.size ≤ k) (z : E5) : Out w (put5 W k z) g := ⟨five h.old hle, h.ge, h.lie.other hk z⟩

end Go.Proofs.YtmhfmhmpoobmlaaGreatDoor

/- The steps of a walk that a program types: which blocks are there and what they hold is one list; each operation is one lemma. -/
namespace Go.Proofs.YtmhfmhmpoobmlaaGreatDoor
open Go.RowKit

/-- A block that the call has made, and what it holds. -/
structure Blk where
  g : Nat
  Z : Obj

/-- All that was there when the call began is as it was; these blocks of its own are there, no two of them one. -/
structure Mem (w0 : World) (L : List Blk) (W : World) : Prop where
  old : Below w0.heap.size w0 W
  at_ : ∀ b ∈ L, W.heap[b.g]? = some b.Z
  ge : ∀ b ∈ L, w0.heap.size ≤ b.g
  nodup : (L.map Blk.g).Nodup

theorem Mem.start (w : World) : Mem w [] w := ⟨Below.refl _ _, by simp, by simp, by simp⟩

theorem Mem.lt {w0 W : World} {L : List Blk} (M : Mem w0 L W) {b : Blk} (hb : b ∈ L) : b.g < W.heap.size := by
  have h := M.at_ b hb
  exact (Array.getElem?_eq_some_iff.1 h).1

theorem Mem.keep {w0 W W' : World} {L : List Blk} (M : Mem w0 L W) (h : Below W.heap.size W W') : Mem w0 L W' where
  old := M.old.trans (h.mono M.old.size)
  at_ := fun b hb => by rw [h.block _ (M.lt hb)]; exact M.at_ b hb
  ge := M.ge
  nodup := M.nodup

theorem Mem.news {w0 W W' : World} {L N : List Blk} (M : Mem w0 L W) (h : Below W.heap.size W W') (hat : ∀ b ∈ N, W'.heap[b.g]? = some b.Z) (hge : ∀ b ∈ N, W.heap.size ≤ b.g) (hnd : (N.map Blk.g).Nodup) : Mem w0 (L ++ N) W' where
  old := M.old.trans (h.mono M.old.size)
  at_ := fun b hb => by
    rcases List.mem_append.1 hb with hb | hb
    · rw [h.block _ (M.lt hb)]; exact M.at_ b hb
    · exact hat b hb
  ge := fun b hb => by
    rcases List.mem_append.1 hb with hb | hb
    · exact M.ge b hb
    · exact Nat.le_trans M.old.size (hge b hb)
  nodup := by
    rw [List.map_append, List.nodup_append]
    refine ⟨M.nodup, hnd, fun x hx y hy e => ?_⟩
    obtain ⟨b, hb, rfl⟩ := List.mem_map.1 hx
    obtain ⟨c, hc, rfl⟩ := List.mem_map.1 hy
    have h1 := M.lt hb
    have h2 := hge c hc
    omega

theorem Mem.new {w0 W W' : World} {L : List Blk} (M : Mem w0 L W) (g : Nat) (Z : Obj) (h : Below W.heap.size W W') (hat : W'.heap[g]? = some Z) (hge : W.heap.size ≤ g) : Mem w0 (L ++ [⟨g, Z⟩]) W' :=
  M.news h (by simpa using hat) (by simpa using hge) (by simp)

theorem nodup_ne {α : Type} {l : List α} (h : l.Nodup) {i j : Nat} (hij : i < j) (hj : j < l.length) : l[i]? ≠ l[j]? := by
  have h1 := List.pairwise_iff_getElem.1 h i j (by omega) hj hij
  rw [List.getElem?_eq_getElem (by omega), List.getElem?_eq_getElem hj]
  exact fun e => h1 (Option.some.inj e)
theorem nodup_of_map {α β : Type} {f : α → β} {l : List α} (h : (l.map f).Nodup) : l.Nodup := (List.pairwise_map.1 h).imp fun hab e => hab (by rw [e])
theorem fst_one {E : List (Nat × Nat)} (hnd : (E.map Prod.fst).Nodup) {x y : Nat × Nat} (hx : x ∈ E) (hy : y ∈ E) (e : x.1 = y.1) : x = y := by
  obtain ⟨i, hi⟩ := List.mem_iff_getElem?.1 hx
  obtain ⟨j, hj⟩ := List.mem_iff_getElem?.1 hy
  have li := (List.getElem?_eq_some_iff.1 hi).1
  have lj := (List.getElem?_eq_some_iff.1 hj).1
  rcases Nat.lt_trichotomy i j with hlt | heq | hlt
  · exact absurd (by simp [hi, hj, e]) (nodup_ne hnd hlt (by simpa using lj))
  · subst heq
    exact Option.some.inj (hi.symm.trans hj)
  · exact absurd (by simp [hi, hj, e]) (nodup_ne hnd hlt (by simpa using li))

theorem nodup_at {L : List Blk} (h : (L.map Blk.g).Nodup) {i j : Nat} {b c : Blk} (hi : L[i]? = some b) (hj : L[j]? = some c) (hij : i ≠ j) : b.g ≠ c.g := by
  intro e
  have h1 := List.getElem?_eq_some_iff.1 hi
  have h2 := List.getElem?_eq_some_iff.1 hj
  obtain ⟨l1, e1⟩ := h1
  obtain ⟨l2, e2⟩ := h2
  rcases Nat.lt_or_gt_of_ne hij with hlt | hlt
  · refine nodup_ne h hlt (by simpa using l2) ?_
    simp [hi, hj, e]
  · refine nodup_ne h hlt (by simpa using l1) ?_
    simp [hi, hj, e]

/-- Block i is changed, and none else. -/
theorem Mem.put {w0 W W' : World} {L : List Blk} (M : Mem w0 L W) (i : Nat) (b : Blk) (hi : L[i]? = some b) (Z : Obj) (hz : W'.heap[b.g]? = some Z) (ho : ∀ k, k ≠ b.g → W'.heap[k]? = W.heap[k]?) (hu : ∀ B u, B ≤ b.g → Below B u W → Below B u W') : Mem w0 (L.set i ⟨b.g, Z⟩) W' where
  old := hu _ _ (M.ge b (List.mem_of_getElem? hi)) M.old
  at_ := fun c hc => by
    obtain ⟨j, hj⟩ := List.mem_iff_getElem?.1 hc
    rw [List.getElem?_set] at hj
    by_cases hij : i = j
    · subst hij
      rw [if_pos rfl] at hj
      split at hj
      · cases hj
        exact hz
      · cases hj
    · rw [if_neg hij] at hj
      rw [ho _ (nodup_at M.nodup hj hi (Ne.symm hij))]
      exact M.at_ c (List.mem_of_getElem? hj)
  ge := fun c hc => by
    obtain ⟨j, hj⟩ := List.mem_iff_getElem?.1 hc
    rw [List.getElem?_set] at hj
    by_cases hij : i = j
    · subst hij
      rw [if_pos rfl] at hj
      split at hj
      · cases hj
        exact M.ge b (List.mem_of_getElem? hi)
      · cases hj
    · rw [if_neg hij] at hj
      exact M.ge c (List.mem_of_getElem? hj)
  nodup := by
    have e : (L.set i ⟨b.g, Z⟩).map Blk.g = L.map Blk.g := by
      apply List.ext_getElem?
      intro j
      simp only [List.getElem?_map, List.getElem?_set]
      by_cases hij : i = j
      · subst hij
        rw [if_pos rfl, hi]
        have := (List.getElem?_eq_some_iff.1 hi).1
        simp [this]
      · rw [if_neg hij]
    rw [e]
    exact M.nodup

theorem Mem.get {w0 W : World} {L : List Blk} (M : Mem w0 L W) (i : Nat) {g : Nat} {Z : Obj} (hi : L[i]? = some ⟨g, Z⟩) : W.heap[g]? = some Z := M.at_ _ (List.mem_of_getElem? hi)
theorem Mem.row {w0 W : World} {L : List Blk} (M : Mem w0 L W) (i : Nat) {g n T : Nat} {f : Nat → Int} (hi : L[i]? = some ⟨g, .cells (arr n f) T⟩) : Row W g T n f := M.get i hi

theorem arr_toList_get (n : Nat) (f : Nat → Int) (j : Nat) (v : Value) (h : (arr n f).toList[j]? = some v) : j < n ∧ v = .int .u64 (f j) := by
  have hj : j < n := by
    have := (List.getElem?_eq_some_iff.1 h).1
    simpa [arr_size] using this
  refine ⟨hj, ?_⟩
  have h2 := arr_get n f j hj
  rw [Array.getElem?_toList] at h
  rw [h2] at h
  exact (Option.some.inj h).symm

theorem Row.range {W : World} {g : Nat} {T : TypeId} {n : Nat} {f : Nat → Int} (h : Row W g T n f) (o k : Nat) (f' : Nat → Int) (hok : o + k ≤ n) (he : ∀ i, i < k → f (o + i) = f' i) : W.rangeAt g o (arr k f').toList := by
  intro j v hv
  obtain ⟨hj, rfl⟩ := arr_toList_get k f' j v hv
  rw [h.cell (by omega), he j hj]

/-- From o on k words of f are f'. -/
def Part (f : Nat → Int) (o k : Nat) (f' : Nat → Int) : Prop := ∀ i, i < k → f (o + i) = f' i
theorem Part.all (f : Nat → Int) (k : Nat) : Part f 0 k f := fun i _ => by rw [Nat.zero_add]
/-- Four rows of n words, one behind the other. -/
def p4 (n : Nat) (x y z t : Nat → Int) : Nat → Int := fun i => if i < n then x i else if i < 2 * n then y (i - n) else if i < 3 * n then z (i - 2 * n) else t (i - 3 * n)
theorem p4_0 (n : Nat) (x y z t : Nat → Int) (o : Nat) (h : o = 0) : Part (p4 n x y z t) o n x := fun i hi => by
  subst h
  unfold p4
  rw [Nat.zero_add, if_pos hi]
theorem p4_1 (n : Nat) (x y z t : Nat → Int) (o : Nat) (h : o = n) : Part (p4 n x y z t) o n y := fun i hi => by
  subst h
  unfold p4
  rw [if_neg (by omega), if_pos (by omega), show o + i - o = i by omega]
theorem p4_2 (n : Nat) (x y z t : Nat → Int) (o : Nat) (h : o = 2 * n) : Part (p4 n x y z t) o n z := fun i hi => by
  subst h
  unfold p4
  rw [if_neg (by omega), if_neg (by omega), if_pos (by omega), show 2 * n + i - 2 * n = i by omega]
theorem p4_3 (n : Nat) (x y z t : Nat → Int) (o : Nat) (h : o = 3 * n) : Part (p4 n x y z t) o n t := fun i hi => by
  subst h
  unfold p4
  rw [if_neg (by omega), if_neg (by omega), if_neg (by omega), show 3 * n + i - 3 * n = i by omega]

/-- The walk of a list of operations, under a name that is not laid open. -/
structure PL (P : Program) (ops : Array Oper) (Q : Exit → Act → World → Prop) (l : List Oper) (a : Act) (w : World) : Prop where
  out : wpList P ops Q l a w
structure KL (P : Program) (ops : Array Oper) (W : World) (Q : Act → Prop) (l : List Oper) (a : Act) : Prop where
  out : wpK P ops W Q l a

section
variable {P : Program} {ops : Array Oper} {rest : List Oper} {o : Oper} {a : Act} {w w0 : World} {L : List Blk} {Q : Exit → Act → World → Prop} {K : Act → World → Prop}

theorem rg_lit {id : Nat} {l : List Oper} (h : PL P l.toArray Q l a w) : (Code.region id l.toArray false).wp P Q a w := wp_region_lit h.out
theorem pl_nil (h : Q .normal a w) : PL P ops Q [] a w := ⟨h⟩

theorem want_no (hg : o.guard = none) : Region.wanted o (yielded ops a.tmps) = true := by
  unfold Region.wanted
  rw [hg]
def boolOf : Value → Option Bool
  | .bool b => some b
  | _ => none
theorem yielded_at (j : Nat) (t : Tmp) (hd : (ops.toList[j]?).bind (·.dst) = some t) (v : Value) (hv : a.eval (.tmp t) = v) : yielded ops a.tmps j = boolOf v := by
  have hd' : (ops[j]?).bind (·.dst) = some t := by rw [← Array.getElem?_toList]; exact hd
  have e : a.tmps[t]?.getD undef = v := by rw [← hv]; simp [Act.eval]
  unfold yielded
  rw [hd']
  simp only [Option.bind_some]
  cases h : a.tmps[t]? with
  | none =>
    rw [h] at e
    rw [← e]
    rfl
  | some u =>
    rw [h] at e
    rw [← e]
    cases u <;> rfl
theorem want_on (j : Nat) (b : Bool) (hg : o.guard = some (j, b)) (t : Tmp) (hd : (ops.toList[j]?).bind (·.dst) = some t) (hv : a.eval (.tmp t) = .bool b) : Region.wanted o (yielded ops a.tmps) = true := by
  unfold Region.wanted
  rw [hg]
  simp only
  rw [yielded_at j t hd _ hv]
  simp [boolOf]
theorem want_off (j : Nat) (b : Bool) (hg : o.guard = some (j, b)) (t : Tmp) (hd : (ops.toList[j]?).bind (·.dst) = some t) (hv : a.eval (.tmp t) = .bool (!b)) : Region.wanted o (yielded ops a.tmps) = false := by
  unfold Region.wanted
  rw [hg]
  simp only
  rw [yielded_at j t hd _ hv]
  cases b <;> rfl
theorem au_then (h : K a w) : Exit.then K Q .normal a w := h
theorem au_then_ret (h : Q .ret a w) : Exit.then K Q .ret a w := h
theorem au_then_exit {i : Nat} (h : Q (.exit i) a w) : Exit.then K Q (.exit i) a w := h
theorem au_block {id : Nat} (h : Q .normal a w) : Exit.inBlock id Q .normal a w := h
theorem au_block_exit {id : Nat} (h : Q .normal a w) : Exit.inBlock id Q (.exit id) a w := by
  show (if id = id then Q .normal a w else Q (.exit id) a w)
  rw [if_pos rfl]
  exact h

theorem pl_to (hw : Region.wanted o (yielded ops a.tmps) = true) (d : Option Tmp) (hd : o.dst = d) (v : Value) (w' : World) (hrun : (execOp a.eval o).run P w = .ok (.value v) w')
    (h : PL P ops Q rest (a.put d v) w') : PL P ops Q (o :: rest) a w :=
  ⟨Go.BigFrame.wpList_want hw fun _ hK => by
    unfold Oper.wp
    rw [hrun]
    subst hd
    exact hK _ _ h.out⟩

theorem pl_val (hw : Region.wanted o (yielded ops a.tmps) = true) (d : Option Tmp) (hd : o.dst = d) (v : Value) (hrun : ∀ w, (execOp a.eval o).run P w = .ok (.value v) w)
    (h : PL P ops Q rest (a.put d v) w) : PL P ops Q (o :: rest) a w := pl_to hw d hd v w (hrun w) h

theorem pl_skip (hw : Region.wanted o (yielded ops a.tmps) = false) (d : Option Tmp) (hd : o.dst = d) (h : PL P ops Q rest (a.put d undef) w) : PL P ops Q (o :: rest) a w := by
  subst hd
  exact ⟨wpList_skip hw h.out⟩

theorem pl_new (M : Mem w0 L w) (hw : Region.wanted o (yielded ops a.tmps) = true) (d : Option Tmp) (hd : o.dst = d) (Z : Obj) (hrun : ∀ w, (execOp a.eval o).run P w = .ok (.value (.pointer (some ⟨w.heap.size, 0, none⟩))) (w.alloc Z))
    (h : ∀ g w', Mem w0 (L ++ [⟨g, Z⟩]) w' → PL P ops Q rest (a.put d (.pointer (some ⟨g, 0, none⟩))) w') : PL P ops Q (o :: rest) a w :=
  pl_to hw d hd _ _ (hrun w) (h w.heap.size (w.alloc Z) (M.new _ Z (new_below w Z) (heap_alloc_new w Z) (Nat.le_refl _)))

theorem pl_call (M : Mem w0 L w) (hw : Region.wanted o (yielded ops a.tmps) = true) (d : Option Tmp) (hd : o.dst = d) (f : FuncId) (args : Array Value) (v : Value) (hrun : ∀ w, (execOp a.eval o).run P w = .ok (.enter f args) w)
    (hc : ∀ w, Calls P f args w fun e w' => e = .returned v ∧ Below w.heap.size w w') (h : ∀ w', Mem w0 L w' → PL P ops Q rest (a.put d v) w') : PL P ops Q (o :: rest) a w :=
  ⟨Go.BigFrame.wpList_want hw fun _ hK => by
    unfold Oper.wp
    rw [hrun]
    subst hd
    exact (hc w).mono fun e w' ⟨he, hb⟩ => by subst he; exact hK _ _ (h w' (M.keep hb)).out⟩

theorem pl_load (M : Mem w0 L w) (hw : Region.wanted o (yielded ops a.tmps) = true) (d : Option Tmp) (hd : o.dst = d) (ty : TypeId) (x : Operand) (ho : o.op = .load ty x) (i g off : Nat) (hx : a.eval x = .pointer (some ⟨g, off, none⟩)) (n T : Nat) (f : Nat → Int) (hi : L[i]? = some ⟨g, .cells (arr n f) T⟩)
    (k : Nat) (f' : Nat → Int) (hp : Part f off k f') (hk : off + k ≤ n) (t : TypeDesc) (hu : P.underlying ty = some t) (ht : t.isRow = true) (hz : (P.info? ty).map (·.size) = some k)
    (h : PL P ops Q rest (a.put d (.agg (arr k f'))) w) : PL P ops Q (o :: rest) a w := by
  refine pl_to hw d hd (.agg (arr k f')) w ?_ h
  unfold execOp
  have hl := run_loadAt_mid (P := P) w g off ty (arr k f').toList t ((M.row i hi).range off k f' hk hp) hu ht (by rw [hz]; simp [arr_size])
  simp only [ho, hx, Sem.run_bind, hl, Result.andThen_ok, Sem.run_pure, Array.toArray_toList]

theorem pl_put (M : Mem w0 L w) (hw : Region.wanted o (yielded ops a.tmps) = true) (hd : o.dst = none) (ty : TypeId) (x y : Operand) (ho : o.op = .store ty x y) (i g : Nat) (hx : a.eval x = .pointer (some ⟨g, 0, none⟩)) (n T : Nat) (f f' : Nat → Int) (hi : L[i]? = some ⟨g, .cells (arr n f) T⟩)
    (hy : a.eval y = .agg (arr n f')) (hz : (P.info? ty).map (·.size) = some n)
    (h : ∀ w', Mem w0 (L.set i ⟨g, .cells (arr n f') T⟩) w' → PL P ops Q rest a w') : PL P ops Q (o :: rest) a w := by
  have R := M.row i hi
  refine ⟨Go.BigFrame.wpList_want hw fun K hK => wp_store_mid ty x y ho g 0 (arr n f') hx hy (by rw [arr_size]; exact R.there) (by rw [hz, arr_size]) (arr_one _ _) (hK _ _ ?_)⟩
  rw [hd]
  refine PL.out ?_
  exact h _ (M.put i ⟨g, _⟩ hi _ (R.setAll f') (fun k hk => heap_setCells_other g k hk _ _ _) (fun B u hB hu => below_setCells hB _ 0 hu))
end

section
variable {P : Program} {ops : Array Oper} {rest : List Oper} {o : Oper} {a : Act} {W w0 : World} {L : List Blk} {Q : Act → Prop}

theorem k_val (hw : Region.wanted o (yielded ops a.tmps) = true) (d : Option Tmp) (hd : o.dst = d) (v : Value) (hrun : ∀ w, (execOp a.eval o).run P w = .ok (.value v) w) (h : KL P ops W Q rest (a.put d v)) : KL P ops W Q (o :: rest) a := by
  subst hd
  refine ⟨?_⟩
  unfold wpK
  rw [if_pos hw]
  refine ⟨v, fun s => ?_, h.out⟩
  unfold keepAt
  rw [hrun]
  exact ⟨rfl, rfl⟩

theorem k_skip (hw : Region.wanted o (yielded ops a.tmps) = false) (d : Option Tmp) (hd : o.dst = d) (h : KL P ops W Q rest (a.put d undef)) : KL P ops W Q (o :: rest) a := by
  subst hd
  refine ⟨?_⟩
  unfold wpK
  rw [if_neg (by rw [hw]; exact Bool.false_ne_true)]
  exact h.out

theorem k_call (hw : Region.wanted o (yielded ops a.tmps) = true) (d : Option Tmp) (hd : o.dst = d) (f : FuncId) (args : Array Value) (v : Value) (hrun : ∀ w, (execOp a.eval o).run P w = .ok (.enter f args) w)
    (hc : ∀ w, Calls P f args w fun e w' => e = .returned v ∧ Below w.heap.size w w') (h : KL P ops W Q rest (a.put d v)) : KL P ops W Q (o :: rest) a := by
  subst hd
  refine ⟨?_⟩
  unfold wpK
  rw [if_pos hw]
  refine ⟨v, fun s => ?_, h.out⟩
  unfold keepAt
  rw [hrun]
  exact ⟨rfl, hc s.w⟩

theorem k_load (M : Mem w0 L W) (hw : Region.wanted o (yielded ops a.tmps) = true) (d : Option Tmp) (hd : o.dst = d) (ty : TypeId) (x : Operand) (ho : o.op = .load ty x) (i g off : Nat) (hx : a.eval x = .pointer (some ⟨g, off, none⟩)) (n T : Nat) (f : Nat → Int) (hi : L[i]? = some ⟨g, .cells (arr n f) T⟩)
    (k : Nat) (f' : Nat → Int) (hp : Part f off k f') (hk : off + k ≤ n) (t : TypeDesc) (hu : P.underlying ty = some t) (ht : t.isRow = true) (hz : (P.info? ty).map (·.size) = some k)
    (h : KL P ops W Q rest (a.put d (.agg (arr k f')))) : KL P ops W Q (o :: rest) a := by
  subst hd
  refine ⟨?_⟩
  unfold wpK
  rw [if_pos hw]
  refine ⟨.agg (arr k f'), fun s => ?_, h.out⟩
  unfold keepAt execOp
  have hl := run_loadAt_mid (P := P) s.w g off ty (arr k f').toList t (((M.row i hi).keep s.keep).range off k f' hk hp) hu ht (by rw [hz]; simp [arr_size])
  simp only [ho, hx, Sem.run_bind, hl, Result.andThen_ok, Sem.run_pure]
  exact ⟨rfl, by simp⟩

theorem kl_nil (h : Q a) : KL P ops W Q [] a := ⟨h⟩

theorem quiet_of_K : ∀ (l : List Oper) (a : Act), wpK P ops W Q l a → wpQuiet P ops (fun w' => ∃ s : KW W, w' = s.w) Q l a
  | [], _, h => h
  | o :: l, a, h => by
    unfold wpK at h
    unfold wpQuiet
    split
    · rename_i hw
      rw [if_pos hw] at h
      obtain ⟨v, h1, h2⟩ := h
      refine ⟨v, fun w' => ?_, quiet_of_K l _ h2⟩
      rintro ⟨s, rfl⟩
      have h3 := h1 s
      unfold keepAt at h3
      unfold Oper.quietAt
      generalize (execOp a.eval o).run P s.w = r at *
      cases r with
      | ok x w' =>
        cases x <;> simp only [keepUpon] at h3 <;> simp only [Oper.quietUpon]
        case value => exact h3
        case skip => exact h3
        case enter f args => exact ⟨h3.1, keep_of h3.2⟩
      | halt x w' => simp only [keepUpon] at h3
    · rename_i hw
      rw [if_neg hw] at h
      exact quiet_of_K l _ h
end

section
variable {P : Program} {W w0 : World} {L : List Blk} {Q : Exit → Act → World → Prop} {a : Act}

/-- A region that draws, with calls, and a tail in the text's order. -/
theorem rg_tail {id : Nat} {l : List Oper} (M : Mem w0 L W) (n : Nat) (hm : P.follows .mixedOrders = true) (hB : Region.lexTailB .any l.toArray n = true)
    (h0 : KL P l.toArray W (fun a' => ∀ w', Mem w0 L w' → PL P l.toArray Q (l.drop n) a' w') (l.take n) a) : (Code.region id l.toArray true).wp P Q a W := by
  have h := h0.out
  refine wp_region_keep_tail n hm hB (quiet_of_K _ _ ?_)
  have key : ∀ (l1 : List Oper) (a1 : Act), wpK P l.toArray W (fun a' => ∀ w', Mem w0 L w' → PL P l.toArray Q (l.drop n) a' w') l1 a1 → wpK P l.toArray W (fun a' => ∀ s : KW W, wpList P l.toArray Q (l.drop n) a' s.w) l1 a1 := by
    intro l1
    induction l1 with
    | nil => intro a1 h1 s; exact (h1 s.w (M.keep s.keep)).out
    | cons o l1 ih =>
      intro a1 h1
      unfold wpK at h1
      unfold wpK
      split
      · rename_i hw
        rw [if_pos hw] at h1
        obtain ⟨v, h2, h3⟩ := h1
        exact ⟨v, h2, ih _ h3⟩
      · rename_i hw
        rw [if_neg hw] at h1
        exact ih _ h1
  exact key _ _ h

/-- The operations that make variables: where the address goes, the type, how many words. -/
def AllocsAt (P : Program) : List Oper → List (Tmp × TypeId × Nat) → Prop
  | _, [] => True
  | [], _ :: _ => False
  | o :: l, (d, T, k) :: zs => o.dst = some d ∧ o.guard = none ∧ (∀ a w, (execOp (Act.eval a) o).run P w = .ok (.value (.pointer (some ⟨w.heap.size, 0, none⟩))) (w.alloc (.cells (arr k fun _ => 0) T))) ∧ AllocsAt P l zs

def AllG : List (Tmp × TypeId × Nat) → (List Nat → Prop) → Prop
  | [], K => K []
  | _ :: zs, K => ∀ g, AllG zs fun gs => K (g :: gs)

theorem AllG.at_ : ∀ (zs : List (Tmp × TypeId × Nat)) (K : List Nat → Prop), AllG zs K → ∀ gs : List Nat, gs.length = zs.length → K gs
  | [], K, h, [], _ => h
  | _ :: zs, K, h, g :: gs, e => AllG.at_ zs _ (h g) gs (by simpa using e)
  | [], _, _, _ :: _, e => by simp at e
  | _ :: _, _, _, [], e => by simp at e

def blksOf : List (Tmp × TypeId × Nat) → List Nat → List Blk
  | (_, T, k) :: zs, g :: gs => ⟨g, .cells (arr k fun _ => 0) T⟩ :: blksOf zs gs
  | _, _ => []
def putsOf : List (Tmp × TypeId × Nat) → List Nat → Act → Act
  | (d, _, _) :: zs, g :: gs, a => putsOf zs gs (a.put (some d) (.pointer (some ⟨g, 0, none⟩)))
  | _, _, a => a

theorem allocsAt_get : ∀ (l : List Oper) (zs : List (Tmp × TypeId × Nat)), AllocsAt P l zs → ∀ (j : Nat) (z : Tmp × TypeId × Nat), zs[j]? = some z → ∃ o, l[j]? = some o ∧ o.dst = some z.1 ∧ o.guard = none ∧ ∀ a w, (execOp (Act.eval a) o).run P w = .ok (.value (.pointer (some ⟨w.heap.size, 0, none⟩))) (w.alloc (.cells (arr z.2.2 fun _ => 0) z.2.1))
  | _, [], _, j, z, h => by simp at h
  | [], _ :: _, h, _, _, _ => h.elim
  | o :: l, (d, T, k) :: zs, h, 0, z, e => by
    simp at e
    subst e
    exact ⟨o, rfl, h.1, h.2.1, h.2.2.1⟩
  | o :: l, (d, T, k) :: zs, h, j + 1, z, e => by
    obtain ⟨o', h1, h2⟩ := allocsAt_get l zs h.2.2.2 j z (by simpa using e)
    exact ⟨o', by simpa using h1, h2⟩

theorem putE_of (ds : Nat → Option Tmp) : ∀ (zs : List (Tmp × TypeId × Nat)) (gs : List Nat) (n : Nat) (a : Act), gs.length = zs.length → (∀ j z, zs[j]? = some z → ds (n + j) = some z.1) → putE ds ((List.range' n zs.length).zip gs) a = putsOf zs gs a
  | [], [], n, a, _, _ => rfl
  | (d, T, k) :: zs, g :: gs, n, a, e, h => by
    have h0 := h 0 (d, T, k) rfl
    rw [Nat.add_zero] at h0
    show putE ds ((List.range' (n + 1) zs.length).zip gs) (a.put (ds n) (.pointer (some ⟨g, 0, none⟩))) = _
    rw [h0]
    exact putE_of ds zs gs (n + 1) _ (by simpa using e) fun j z hz => by
      have := h (j + 1) z (by simpa using hz)
      rwa [show n + (j + 1) = n + 1 + j by omega] at this
  | [], _ :: _, _, _, e, _ => by simp at e
  | _ :: _, [], _, _, e, _ => by simp at e

theorem doneE_of : ∀ (gs : List Nat) (n : Nat) (d : Array Bool), doneE ((List.range' n gs.length).zip gs) d = (List.range' n gs.length).foldl (fun d i => d.setIfInBounds i true) d
  | [], _, _ => rfl
  | _ :: gs, n, d => doneE_of gs (n + 1) (d.setIfInBounds n true)

theorem blks_mem : ∀ (zs : List (Tmp × TypeId × Nat)) (gs : List Nat) (n : Nat) (Zs : Nat → Obj), (∀ j z, zs[j]? = some z → Zs (n + j) = .cells (arr z.2.2 fun _ => 0) z.2.1) → ∀ b ∈ blksOf zs gs, ∃ j, (j, b.g) ∈ (List.range' n zs.length).zip gs ∧ b.Z = Zs j
  | [], _, _, _, _, b, h => by simp [blksOf] at h
  | _ :: _, [], _, _, _, b, h => by simp [blksOf] at h
  | (d, T, k) :: zs, g :: gs, n, Zs, hZ, b, h => by
    simp only [blksOf, List.mem_cons] at h
    rcases h with rfl | h
    · have h0 := hZ 0 (d, T, k) rfl
      exact ⟨n, by simp [List.range'], by simpa using h0.symm⟩
    · obtain ⟨j, h1, h2⟩ := blks_mem zs gs (n + 1) Zs (fun j z hz => by
        have := hZ (j + 1) z (by simpa using hz)
        rwa [show n + (j + 1) = n + 1 + j by omega] at this) b h
      refine ⟨j, ?_, h2⟩
      simp only [List.length_cons, List.range'_succ, List.zip_cons_cons, List.mem_cons]
      exact .inr h1
theorem blks_g : ∀ (zs : List (Tmp × TypeId × Nat)) (gs : List Nat), gs.length = zs.length → (blksOf zs gs).map Blk.g = gs
  | [], [], _ => rfl
  | (d, T, k) :: zs, g :: gs, e => by simp [blksOf, blks_g zs gs (by simpa using e)]
  | [], _ :: _, e => by simp at e
  | _ :: _, [], e => by simp at e

/-- The variables that were made, in the order of the text. -/
theorem sorted_of {E : List (Nat × Nat)} {n k : Nat} (hnd : (E.map Prod.fst).Nodup) (hin : ∀ p ∈ E, n ≤ p.1 ∧ p.1 < n + k) (hlen : E.length = k) : ∃ gs : List Nat, gs.length = k ∧ E.Perm ((List.range' n k).zip gs) := by
  have hex : ∀ j ∈ List.range' n k, ∃ g, (j, g) ∈ E := by
    intro j hj
    refine Classical.byContradiction fun hno => ?_
    have hni : j ∉ E.map Prod.fst := fun h => by
      obtain ⟨p, hp, rfl⟩ := List.mem_map.1 h
      exact hno ⟨p.2, hp⟩
    have hnd2 : (j :: E.map Prod.fst).Nodup := List.nodup_cons.2 ⟨hni, hnd⟩
    have hsub : (j :: E.map Prod.fst) ⊆ List.range' n k := fun x hx => by
      rcases List.mem_cons.1 hx with rfl | hx
      · exact hj
      · obtain ⟨p, hp, rfl⟩ := List.mem_map.1 hx
        rw [List.mem_range'_1]
        exact hin p hp
    have := hnd2.length_le_of_subset hsub
    simp at this
    omega
  have hch : ∀ l : List Nat, (∀ j ∈ l, ∃ g, (j, g) ∈ E) → ∃ gs : List Nat, gs.length = l.length ∧ ∀ p ∈ l.zip gs, p ∈ E := by
    intro l
    induction l with
    | nil => intro _; exact ⟨[], rfl, by simp⟩
    | cons j l ih =>
      intro h
      obtain ⟨g, hg⟩ := h j (by simp)
      obtain ⟨gs, h1, h2⟩ := ih fun i hi => h i (by simp [hi])
      exact ⟨g :: gs, by simp [h1], fun p hp => by
        simp only [List.zip_cons_cons, List.mem_cons] at hp
        rcases hp with rfl | hp
        · exact hg
        · exact h2 p hp⟩
  obtain ⟨gs, h1, h2⟩ := hch _ hex
  have hl : gs.length = k := by simpa using h1
  refine ⟨gs, hl, ?_⟩
  have hz : ((List.range' n k).zip gs).map Prod.fst = List.range' n k := by
    rw [List.map_fst_zip]
    simp [hl]
  have hndz : ((List.range' n k).zip gs).Nodup := by
    have : (((List.range' n k).zip gs).map Prod.fst).Nodup := by
      rw [hz]
      exact List.nodup_range'
    exact nodup_of_map this
  have hndE : E.Nodup := nodup_of_map hnd
  refine (List.perm_ext_iff_of_nodup hndE hndz).2 fun p => ⟨fun hp => ?_, h2 p⟩
  have h3 : p.1 ∈ ((List.range' n k).zip gs).map Prod.fst := by
    rw [hz, List.mem_range'_1]
    exact hin p hp
  obtain ⟨q, hq, he⟩ := List.mem_map.1 h3
  rw [← fst_one hnd (h2 q hq) hp he]
  exact hq

/-- A region that draws, with calls, that makes these variables at times left open, and a tail in the text's order. -/
theorem rg_allocs {id : Nat} {l : List Oper} (M : Mem w0 L W) (n : Nat) (zs : List (Tmp × TypeId × Nat)) (hm : P.follows .mixedOrders = true) (hB : lexAllocsB .any l.toArray n (n + zs.length) = true) (hA : AllocsAt P (l.drop n) zs) (hds : (zs.map (·.1)).Nodup)
    (h0 : KL P l.toArray W (fun a' => ∀ w', AllG zs fun gs => Mem w0 (L ++ blksOf zs gs) w' → PL P l.toArray Q (l.drop (n + zs.length)) (putsOf zs gs a') w') (l.take n) a) : (Code.region id l.toArray true).wp P Q a W := by
  have h := h0.out
  simp only [lexAllocsB, Bool.and_eq_true, decide_eq_true_eq] at hB
  obtain ⟨⟨⟨⟨⟨⟨hsel, hn⟩, hnm⟩, hs⟩, hc⟩, hfr⟩, hlex⟩ := hB
  have hn' : n + zs.length < l.length := by simpa using hn
  have htl : (l.take n).length = n := by simp; omega
  have hdl : (l.drop (n + zs.length)).length = l.toArray.size - (n + zs.length) := by simp
  have inv : HeadInv .any l.toArray (n + zs.length) (Array.replicate l.toArray.size false) :=
    ⟨by simp, fun j oj _ hl => (by rw [getD_replicate_false] at hl; cases hl), fun t _ ht => getD_in (by simpa using ht) (getD_replicate_false _ _)⟩
  have H := HeadM.lex (md := .any) (g := l.toArray.size - (n + zs.length)) hsel hs hc hn hnm (l.take n) 0 _ a (fun j hj => by rw [htl] at hj; simp [hj]) (by simpa using htl) inv (by rw [htl]; exact hlex) h
  refine wp_region_any hm ?_
  have hget := allocsAt_get _ _ hA
  have hdsj : ∀ j z, zs[j]? = some z → (fun i => (zs[i - n]?).map (·.1)) (n + j) = some z.1 := fun j z hz => by
    simp only
    rw [show n + j - n = j by omega, hz]
    rfl
  have hZsj : ∀ j z, zs[j]? = some z → (fun i => ((zs[i - n]?).map fun z => Obj.cells (arr z.2.2 fun _ => 0) z.2.1).getD (.cells #[] 0)) (n + j) = .cells (arr z.2.2 fun _ => 0) z.2.1 := fun j z hz => by
    simp only
    rw [show n + j - n = j by omega, hz]
    rfl
  have H2 := HeadM.any (Q := Q) (g := l.toArray.size - (n + zs.length)) (L := fun d a' => (Region.ready .any l.toArray d = List.range' n (n + zs.length - n) ∧ Region.seqB .any l.toArray (l.toArray.size - (n + zs.length)) (n + zs.length) (setR n (n + zs.length) d) = true) ∧ ∀ w', AllG zs fun gs => Mem w0 (L ++ blksOf zs gs) w' → PL P l.toArray Q (l.drop (n + zs.length)) (putsOf zs gs a') w') (ds := fun i => (zs[i - n]?).map (·.1)) (Zs := fun i => ((zs[i - n]?).map fun z => Obj.cells (arr z.2.2 fun _ => 0) z.2.1).getD (.cells #[] 0)) hsel hs hc hn hnm hfr
    (fun j h1 h2 => by
      have hz : zs[j - n]? = some (zs[j - n]'(by omega)) := List.getElem?_eq_getElem _
      obtain ⟨o, ho, hd, hg, hr⟩ := hget (j - n) _ hz
      refine ⟨o, ?_, ?_, hg, ?_⟩
      · rw [List.getElem?_drop, show n + (j - n) = j by omega] at ho
        simpa using ho
      · rw [hd]
        simp only [hz, Option.map_some]
      · intro a w
        rw [hr a w]
        simp only [hz, Option.map_some, Option.getD_some])
    (fun d a' hL => by simpa using hL.1.1)
    (fun d a' hL E w1 hnd hin hlen hK => by
      obtain ⟨gs, hgl, hp⟩ := sorted_of (n := n) (k := zs.length) hnd (fun p hp => by have := hin p hp; omega) (by omega)
      have hseq := hL.1.2
      have e1 : doneE E d = setR n (n + zs.length) d := by
        unfold doneE setR
        rw [hp.foldl_eq' (fun x _ y _ z => by
          by_cases hxy : x.1 = y.1
          · rw [hxy]
          · exact Array.setIfInBounds_comm _ _ hxy)]
        have := doneE_of gs n d
        unfold doneE at this
        rw [hgl] at this
        rw [this]
        congr 2
        omega
      have e2 : putE (fun i => (zs[i - n]?).map (·.1)) E a' = putsOf zs gs a' := by
        rw [← putE_of (fun i => (zs[i - n]?).map (·.1)) zs gs n a' hgl hdsj]
        unfold putE
        refine hp.foldl_eq' (fun x hx y hy z => ?_) _
        by_cases hxy : x = y
        · rw [hxy]
        · refine (Act.put_comm z _ _ fun t ht => ?_)
          intro ht2
          have hx1 := hin x hx
          have hy1 := hin y hy
          have zx : zs[x.1 - n]? = some (zs[x.1 - n]'(by omega)) := List.getElem?_eq_getElem _
          have zy : zs[y.1 - n]? = some (zs[y.1 - n]'(by omega)) := List.getElem?_eq_getElem _
          simp only [zx, zy, Option.map_some, Option.some.injEq] at ht ht2
          have hne : x.1 ≠ y.1 := fun e => hxy (fst_one hnd hx hy e)
          rcases Nat.lt_or_gt_of_ne hne with hlt | hlt
          · exact absurd (by simp [zx, zy, ht, ht2]) (nodup_ne hds (i := x.1 - n) (j := y.1 - n) (by omega) (by simp; omega))
          · exact absurd (by simp [zx, zy, ht, ht2]) (nodup_ne hds (i := y.1 - n) (j := x.1 - n) (by omega) (by simp; omega))
      have hM : Mem w0 (L ++ blksOf zs gs) w1 := by
        refine M.news hK.keep (fun b hb => ?_) (fun b hb => ?_) ?_
        · obtain ⟨j, h1, h2⟩ := blks_mem zs gs n (fun i => ((zs[i - n]?).map fun z => Obj.cells (arr z.2.2 fun _ => 0) z.2.1).getD (.cells #[] 0)) hZsj b hb
          rw [h2]
          exact hK.at_ _ (hp.mem_iff.2 h1)
        · obtain ⟨j, h1, h2⟩ := blks_mem zs gs n (fun i => ((zs[i - n]?).map fun z => Obj.cells (arr z.2.2 fun _ => 0) z.2.1).getD (.cells #[] 0)) hZsj b hb
          exact hK.ge _ (hp.mem_iff.2 h1)
        · rw [blks_g zs gs hgl]
          have h3 := hK.nodup
          rw [(hp.map Prod.snd).nodup_iff, List.map_snd_zip (by simp [hgl])] at h3
          exact h3
      have htail := (AllG.at_ zs _ (hL.2 w1) gs hgl hM).out
      have hgo := wpAny_of_seq (md := .any) (Q' := Q) (l.drop (n + zs.length)) (n + zs.length) _ _ w1 (fun j => by simp [List.getElem?_drop]) (by rw [hdl]; exact hseq) htail
      rw [hdl] at hgo
      rw [e1, e2]
      exact hgo)
    (n + zs.length) n [] (Array.replicate l.toArray.size false) a W.drew (by simp) (by simp) (by simp) (by simp) (by simp) inv (by simpa [htl] using H) ⟨(Below.refl _ _).drew, by simp, by simp, by simp, by simp⟩
  rw [show n + zs.length + (l.toArray.size - (n + zs.length)) = l.toArray.size by omega] at H2
  exact H2
end

section
variable {P : Program} {ops : Array Oper} {rest : List Oper} {o : Oper} {a : Act} {w : World} {Q : Exit → Act → World → Prop} {K : Act → World → Prop}
/-- What an operation is in every world. -/
structure Rn (P : Program) (a : Act) (o : Oper) (v : Value) : Prop where
  out : ∀ w, (execOp a.eval o).run P w = .ok (.value v) w
theorem pv (d : Tmp) (v : Value) (h : PL P ops Q rest (a.put (some d) v) w) (hw : Region.wanted o (yielded ops a.tmps) = true := by exact want_no rfl) (hd : o.dst = some d := by exact rfl) (hrun : Rn P a o v := by exact ⟨fun _ => by kernel_rfl⟩) : PL P ops Q (o :: rest) a w := pl_val hw (some d) hd v hrun.out h
theorem kv {W : World} {Q : Act → Prop} (d : Tmp) (v : Value) (h : KL P ops W Q rest (a.put (some d) v)) (hw : Region.wanted o (yielded ops a.tmps) = true := by exact want_no rfl) (hd : o.dst = some d := by exact rfl) (hrun : Rn P a o v := by exact ⟨fun _ => by kernel_rfl⟩) : KL P ops W Q (o :: rest) a := k_val hw (some d) hd v hrun.out h
theorem nt (h : K a w) : PL P ops (Exit.then K Q) [] a w := pl_nil (au_then h)
theorem sr {id : Nat} {l : List Oper} {y : Code} (h : PL P l.toArray (Exit.then (y.wp P Q) Q) l a w) : (Code.seq (Code.region id l.toArray false) y).wp P Q a w := wp_seq (rg_lit h)
end

/- The steps, said shortly: what is asked by the kernel alone is not written down. -/
structure Rc (P : Program) (a : Act) (o : Oper) (f : FuncId) (xs : Array Value) : Prop where
  out : ∀ w, (execOp a.eval o).run P w = .ok (.enter f xs) w
structure Ra (P : Program) (a : Act) (o : Oper) (Z : Obj) : Prop where
  out : ∀ w, (execOp a.eval o).run P w = .ok (.value (.pointer (some ⟨w.heap.size, 0, none⟩))) (w.alloc Z)
structure Ev (a : Act) (x : Operand) (v : Value) : Prop where
  out : a.eval x = v
theorem isRow_of {P : Program} {ty : TypeId} (h : (P.underlying ty).map TypeDesc.isRow = some true) : ∃ t, P.underlying ty = some t ∧ t.isRow = true := by
  cases e : P.underlying ty with
  | none => rw [e] at h; cases h
  | some t => rw [e] at h; exact ⟨t, rfl, by simpa using h⟩
section
variable {P : Program} {ops : Array Oper} {rest : List Oper} {o : Oper} {a : Act} {w w0 W : World} {L : List Blk} {Q : Exit → Act → World → Prop} {R : Act → Prop}
theorem zN (M : Mem w0 L w) (d : Tmp) (Z : Obj) (h : ∀ g w', Mem w0 (L ++ [⟨g, Z⟩]) w' → PL P ops Q rest (a.put (some d) (.pointer (some ⟨g, 0, none⟩))) w') (hw : Region.wanted o (yielded ops a.tmps) = true := by exact want_no rfl) (hd : o.dst = some d := by exact rfl) (hr : Ra P a o Z := by exact ⟨fun _ => by kernel_rfl⟩) : PL P ops Q (o :: rest) a w := pl_new M hw (some d) hd Z hr.out h
theorem zC (M : Mem w0 L w) (d : Tmp) {f : FuncId} {xs : Array Value} {v : Value} (hc : ∀ w, Calls P f xs w fun e w' => e = .returned v ∧ Below w.heap.size w w') (h : ∀ w', Mem w0 L w' → PL P ops Q rest (a.put (some d) v) w') (hw : Region.wanted o (yielded ops a.tmps) = true := by exact want_no rfl) (hd : o.dst = some d := by exact rfl) (hr : Rc P a o f xs := by exact ⟨fun _ => by kernel_rfl⟩) : PL P ops Q (o :: rest) a w := pl_call M hw (some d) hd f xs v hr.out hc h
theorem wC (d : Tmp) {f : FuncId} {xs : Array Value} {v : Value} (hc : ∀ w, Calls P f xs w fun e w' => e = .returned v ∧ Below w.heap.size w w') (h : KL P ops W R rest (a.put (some d) v)) (hw : Region.wanted o (yielded ops a.tmps) = true := by exact want_no rfl) (hd : o.dst = some d := by exact rfl) (hr : Rc P a o f xs := by exact ⟨fun _ => by kernel_rfl⟩) : KL P ops W R (o :: rest) a := k_call hw (some d) hd f xs v hr.out hc h
theorem zL (M : Mem w0 L w) (d : Tmp) (i : Nat) {g n T : Nat} {f : Nat → Int} (hi : L[i]? = some ⟨g, .cells (arr n f) T⟩) (off k : Nat) {f' : Nat → Int} (hp : Part f off k f') (h : PL P ops Q rest (a.put (some d) (.agg (arr k f'))) w) {ty : TypeId} {x : Operand} (hw : Region.wanted o (yielded ops a.tmps) = true := by exact want_no rfl) (hd : o.dst = some d := by exact rfl) (ho : o.op = .load ty x := by exact rfl) (hx : Ev a x (.pointer (some ⟨g, off, none⟩)) := by exact ⟨by kernel_rfl⟩) (hk : off + k ≤ n := by decide) (hu : (P.underlying ty).map TypeDesc.isRow = some true := by kernel_rfl) (hz : (P.info? ty).map (·.size) = some k := by kernel_rfl) : PL P ops Q (o :: rest) a w := by
  obtain ⟨t, h1, h2⟩ := isRow_of hu
  exact pl_load M hw (some d) hd ty x ho i g off hx.out n T f hi k f' hp hk t h1 h2 hz h
theorem wL (M : Mem w0 L W) (d : Tmp) (i : Nat) {g n T : Nat} {f : Nat → Int} (hi : L[i]? = some ⟨g, .cells (arr n f) T⟩) (off k : Nat) {f' : Nat → Int} (hp : Part f off k f') (h : KL P ops W R rest (a.put (some d) (.agg (arr k f')))) {ty : TypeId} {x : Operand} (hw : Region.wanted o (yielded ops a.tmps) = true := by exact want_no rfl) (hd : o.dst = some d := by exact rfl) (ho : o.op = .load ty x := by exact rfl) (hx : Ev a x (.pointer (some ⟨g, off, none⟩)) := by exact ⟨by kernel_rfl⟩) (hk : off + k ≤ n := by decide) (hu : (P.underlying ty).map TypeDesc.isRow = some true := by kernel_rfl) (hz : (P.info? ty).map (·.size) = some k := by kernel_rfl) : KL P ops W R (o :: rest) a := by
  obtain ⟨t, h1, h2⟩ := isRow_of hu
  exact k_load M hw (some d) hd ty x ho i g off hx.out n T f hi k f' hp hk t h1 h2 hz h
theorem zA (M : Mem w0 L w) (d : Tmp) (i : Nat) {g n T : Nat} {f : Nat → Int} (hi : L[i]? = some ⟨g, .cells (arr n f) T⟩) (h : PL P ops Q rest (a.put (some d) (.agg (arr n f))) w) {ty : TypeId} {x : Operand} (hw : Region.wanted o (yielded ops a.tmps) = true := by exact want_no rfl) (hd : o.dst = some d := by exact rfl) (ho : o.op = .load ty x := by exact rfl) (hx : Ev a x (.pointer (some ⟨g, 0, none⟩)) := by exact ⟨by kernel_rfl⟩) (hu : (P.underlying ty).map TypeDesc.isRow = some true := by kernel_rfl) (hz : (P.info? ty).map (·.size) = some n := by kernel_rfl) : PL P ops Q (o :: rest) a w := by
  obtain ⟨t, h1, h2⟩ := isRow_of hu
  exact pl_load M hw (some d) hd ty x ho i g 0 hx.out n T f hi n f (Part.all _ _) (by omega) t h1 h2 hz h
theorem wA (M : Mem w0 L W) (d : Tmp) (i : Nat) {g n T : Nat} {f : Nat → Int} (hi : L[i]? = some ⟨g, .cells (arr n f) T⟩) (h : KL P ops W R rest (a.put (some d) (.agg (arr n f)))) {ty : TypeId} {x : Operand} (hw : Region.wanted o (yielded ops a.tmps) = true := by exact want_no rfl) (hd : o.dst = some d := by exact rfl) (ho : o.op = .load ty x := by exact rfl) (hx : Ev a x (.pointer (some ⟨g, 0, none⟩)) := by exact ⟨by kernel_rfl⟩) (hu : (P.underlying ty).map TypeDesc.isRow = some true := by kernel_rfl) (hz : (P.info? ty).map (·.size) = some n := by kernel_rfl) : KL P ops W R (o :: rest) a := by
  obtain ⟨t, h1, h2⟩ := isRow_of hu
  exact k_load M hw (some d) hd ty x ho i g 0 hx.out n T f hi n f (Part.all _ _) (by omega) t h1 h2 hz h
theorem zW (M : Mem w0 L w) (i : Nat) {g n T : Nat} {f : Nat → Int} (hi : L[i]? = some ⟨g, .cells (arr n f) T⟩) (f' : Nat → Int) (h : ∀ w', Mem w0 (L.set i ⟨g, .cells (arr n f') T⟩) w' → PL P ops Q rest a w') {ty : TypeId} {x y : Operand} (hw : Region.wanted o (yielded ops a.tmps) = true := by exact want_no rfl) (hd : o.dst = none := by exact rfl) (ho : o.op = .store ty x y := by exact rfl) (hx : Ev a x (.pointer (some ⟨g, 0, none⟩)) := by exact ⟨by kernel_rfl⟩) (hy : Ev a y (.agg (arr n f')) := by exact ⟨by kernel_rfl⟩) (hz : (P.info? ty).map (·.size) = some n := by kernel_rfl) : PL P ops Q (o :: rest) a w :=
  pl_put M hw hd ty x y ho i g hx.out n T f f' hi hy.out hz h
end

end Go.Proofs.YtmhfmhmpoobmlaaGreatDoor

/- The words of each type; what a call hands back out of its slots. -/
namespace Go.Proofs.YtmhfmhmpoobmlaaGreatDoor
open Go.RowKit

theorem inz58 : (Tryz.prog.info? 58).map (·.size) = some 5 := by kernel_rfl
theorem inz60 : (Tryz.prog.info? 60).map (·.size) = some 20 := by kernel_rfl
theorem inz85 : (Tryz.prog.info? 85).map (·.size) = some 320 := by kernel_rfl

theorem results_tmp1 {P : Program} {fn : Func} {p : Tmp} (h : fn.results = #[.tmp p]) (tmps : Array Value) (w : World) (v : Value) (hp : tmps.getD p undef = v) : (results fn tmps).run P w = .ok v w := by
  have hp' : tmps[p]?.getD undef = v := by simpa using hp
  simp [results, h, hp']
theorem results_tmp2 {P : Program} {fn : Func} {p q : Tmp} (h : fn.results = #[.tmp p, .tmp q]) (tmps : Array Value) (w : World) (v u : Value) (hp : tmps.getD p undef = v) (hq : tmps.getD q undef = u) : (results fn tmps).run P w = .ok (.tuple #[v, u]) w := by
  have hp' : tmps[p]?.getD undef = v := by simpa using hp
  have hq' : tmps[q]?.getD undef = u := by simpa using hq
  simp [results, h, hp', hq']

end Go.Proofs.YtmhfmhmpoobmlaaGreatDoor

/- Contracts of the functions of package num that carry, add, subtract and negate. -/
namespace Go.Proofs.YtmhfmhmpoobmlaaGreatDoor
open Go.RowKit

theorem carR {a b : Int} (ha : W64 a) (hb : W64 b) : IntKind.u64.wrap (bits BinOp.and IntKind.u64 b 2251799813685247 + a / 2251799813685248) = b % 2251799813685248 + a / 2251799813685248 := by
  rw [and51 hb]
  unfold W64 at *
  exact wrap64u ⟨by omega, by omega⟩

theorem carR0 {a b : Int} (ha : W64 a) (hb : W64 b) : IntKind.u64.wrap (bits BinOp.and IntKind.u64 b 2251799813685247 + IntKind.u64.wrap (a / 2251799813685248 * 19)) = b % 2251799813685248 + a / 2251799813685248 * 19 := by
  rw [and51 hb]
  unfold W64 at *
  rw [wrap64u (x := a / 2251799813685248 * 19) ⟨by omega, by omega⟩]
  exact wrap64u ⟨by omega, by omega⟩

set_option maxHeartbeats 400000 in
theorem carried_any (a b c d e : Int) (w : World) (ha : W64 a) (hb : W64 b) (hc : W64 c) (hd : W64 d) (he : W64 e) :
    Calls Tryz.prog 118 #[.int .u64 a, .int .u64 b, .int .u64 c, .int .u64 d, .int .u64 e] w fun r w' => r = .returned (car a b c d e).v ∧ Below w.heap.size w w' := by
  go_enter Tryz.func118, Tryz.ntmps118
  go_wp2
  rw [carR0 he ha, carR ha hb, carR hb hc, carR hc hd, carR hd he]
  exact bodyPost_ret (v := (car a b c d e).v) (by simp [results, Tryz.results118, go_sem, car]) rfl ⟨rfl, (Below.refl _ _).alloc (Nat.le_refl _) _⟩

theorem bcell {W w1 : World} (hb : Below W.heap.size W w1) : (∀ b o, b < W.heap.size → w1.cell? ⟨b, o, none⟩ = W.cell? ⟨b, o, none⟩) ∧ (∀ b o, b < W.heap.size → w1.frozen? ⟨b, o, none⟩ = W.frozen? ⟨b, o, none⟩) :=
  ⟨fun b o h => hb.cell (p := ⟨b, o, none⟩) h, fun b o h => hb.frozen (p := ⟨b, o, none⟩) h⟩

theorem below3 {w w1 : World} {A B C : Obj} (hb : Below (((w.alloc A).alloc B).alloc C).heap.size (((w.alloc A).alloc B).alloc C) w1) : Below w.heap.size w w1 :=
  ((((Below.refl _ _).alloc (Nat.le_refl _) _).alloc (by simp) _).alloc (by simp; omega) _).trans (hb.mono (by simp; omega))

theorem below2 {w w1 : World} {A B : Obj} (hb : Below ((w.alloc A).alloc B).heap.size ((w.alloc A).alloc B) w1) : Below w.heap.size w w1 :=
  (((Below.refl _ _).alloc (Nat.le_refl _) _).alloc (by simp) _).trans (hb.mono (by simp; omega))

theorem below1 {w w1 : World} {A : Obj} (hb : Below (w.alloc A).heap.size (w.alloc A) w1) : Below w.heap.size w w1 :=
  ((Below.refl _ _).alloc (Nat.le_refl _) _).trans (hb.mono (by simp))

theorem set5 {B g : Nat} {w w1 : World} (h : Below B w w1) (hg : B ≤ g) {u0 u1 u2 u3 u4 : Value} :
    Below B w (((((w1.setCell ⟨g, 0, none⟩ u0).setCell ⟨g, 1, none⟩ u1).setCell ⟨g, 2, none⟩ u2).setCell ⟨g, 3, none⟩ u3).setCell ⟨g, 4, none⟩ u4) :=
  ((((h.setCell (p := ⟨g, 0, none⟩) hg u0).setCell (p := ⟨g, 1, none⟩) hg u1).setCell (p := ⟨g, 2, none⟩) hg u2).setCell (p := ⟨g, 3, none⟩) hg u3).setCell (p := ⟨g, 4, none⟩) hg u4

theorem set2 {B g : Nat} {w w1 : World} (h : Below B w w1) (hg : B ≤ g) {u0 u1 : Value} :
    Below B w ((w1.setCell ⟨g, 0, none⟩ u0).setCell ⟨g, 1, none⟩ u1) :=
  (h.setCell (p := ⟨g, 0, none⟩) hg u0).setCell (p := ⟨g, 1, none⟩) hg u1

set_option maxHeartbeats 400000 in
theorem add_any (x y : E5) (w : World) (hx : x.Ok) (hy : y.Ok) :
    Calls Tryz.prog 112 #[x.v, y.v] w fun r w' => r = .returned (addF x y).v ∧ Below w.heap.size w w' := by
  obtain ⟨a0, a1, b0, b1, c0, c1, d0, d1, e0, e1⟩ := hx
  obtain ⟨f0, f1, g0, g1, h0, h1, i0, i1, j0, j1⟩ := hy
  go_enter Tryz.func112, Tryz.ntmps112
  go_wp2_with fail
  refine (carried_any _ _ _ _ _ _ ⟨by omega, by omega⟩ ⟨by omega, by omega⟩ ⟨by omega, by omega⟩ ⟨by omega, by omega⟩ ⟨by omega, by omega⟩).mono ?_
  rintro _ w1 ⟨rfl, hb⟩
  obtain ⟨z, hz⟩ : ∃ z, addF x y = z := ⟨_, rfl⟩
  have hz' := hz
  unfold addF at hz'
  rw [hz']
  have H := hide hz
  have H3 := hide (below3 hb)
  obtain ⟨hc, hf⟩ := bcell hb
  have hs : w.heap.size + 1 + 1 < w1.heap.size := by have := hb.size; simp at this; omega
  clear hz hz' hb a0 a1 b0 b1 c0 c1 d0 d1 e0 e1 f0 f1 g0 g1 h0 h1 i0 i1 j0 j1
  go_wp2
  refine bodyPost_ret (v := z.v) (by simp [results, Tryz.results112, go_sem, hc]) rfl ⟨by rw [H.out], ?_⟩
  exact set5 H3.out (by omega)

set_option maxHeartbeats 400000 in
theorem sub_any (x y : E5) (w : World) (hx : x.Ok) (hy : y.Ok) :
    Calls Tryz.prog 111 #[x.v, y.v] w fun r w' => r = .returned (subF x y).v ∧ Below w.heap.size w w' := by
  obtain ⟨a0, a1, b0, b1, c0, c1, d0, d1, e0, e1⟩ := hx
  obtain ⟨f0, f1, g0, g1, h0, h1, i0, i1, j0, j1⟩ := hy
  go_enter Tryz.func111, Tryz.ntmps111
  go_wp2_with fail
  refine (carried_any _ _ _ _ _ _ ⟨by omega, by omega⟩ ⟨by omega, by omega⟩ ⟨by omega, by omega⟩ ⟨by omega, by omega⟩ ⟨by omega, by omega⟩).mono ?_
  rintro _ w1 ⟨rfl, hb⟩
  obtain ⟨z, hz⟩ : ∃ z, subF x y = z := ⟨_, rfl⟩
  have hz' := hz
  unfold subF at hz'
  rw [hz']
  have H := hide hz
  have H3 := hide (below3 hb)
  obtain ⟨hc, hf⟩ := bcell hb
  have hs : w.heap.size + 1 + 1 < w1.heap.size := by have := hb.size; simp at this; omega
  clear hz hz' hb a0 a1 b0 b1 c0 c1 d0 d1 e0 e1 f0 f1 g0 g1 h0 h1 i0 i1 j0 j1
  go_wp2
  refine bodyPost_ret (v := z.v) (by simp [results, Tryz.results111, go_sem, hc]) rfl ⟨by rw [H.out], ?_⟩
  exact set5 H3.out (by omega)

set_option maxHeartbeats 400000 in
theorem neg_any (x : E5) (w : World) (hx : x.Ok) :
    Calls Tryz.prog 80 #[x.v] w fun r w' => r = .returned (negF x).v ∧ Below w.heap.size w w' := by
  go_enter Tryz.func80, Tryz.ntmps80
  go_wp2_with fail
  refine (sub_any zeroE x _ zeroE_ok hx).mono ?_
  rintro _ w1 ⟨rfl, hb⟩
  obtain ⟨z, hz⟩ : ∃ z, negF x = z := ⟨_, rfl⟩
  have hz' := hz
  unfold negF at hz'
  rw [hz']
  have H := hide hz
  have H3 := hide (below2 hb)
  obtain ⟨hc, hf⟩ := bcell hb
  have hs : w.heap.size + 1 < w1.heap.size := by have := hb.size; simp at this; omega
  clear hz hz' hb
  go_wp2
  refine bodyPost_ret (v := z.v) (by simp [results, Tryz.results80, go_sem, hc]) rfl ⟨by rw [H.out], ?_⟩
  exact set5 H3.out (by omega)

set_option maxHeartbeats 400000 in
theorem small_any (n : Int) (w : World) (h0 : 0 ≤ n) (h1 : n < 4294967296) :
    Calls Tryz.prog 109 #[.int .u32 n] w fun r w' => r = .returned (smallF n).v ∧ Below w.heap.size w w' := by
  go_enter Tryz.func109, Tryz.ntmps109
  go_wp2_with fail
  refine (carried_any _ _ _ _ _ _ ⟨by omega, by omega⟩ ⟨by decide, by decide⟩ ⟨by decide, by decide⟩ ⟨by decide, by decide⟩ ⟨by decide, by decide⟩).mono ?_
  rintro _ w1 ⟨rfl, hb⟩
  obtain ⟨z, hz⟩ : ∃ z, smallF n = z := ⟨_, rfl⟩
  have hz' := hz
  unfold smallF at hz'
  rw [hz']
  have H := hide hz
  have H3 := hide (below1 hb)
  obtain ⟨hc, hf⟩ := bcell hb
  have hs : w.heap.size < w1.heap.size := by have := hb.size; simp at this; omega
  clear hz hz' hb
  go_wp2
  refine bodyPost_ret (v := z.v) (by simp [results, Tryz.results109, go_sem, hc]) rfl ⟨by rw [H.out], ?_⟩
  exact set5 H3.out (by omega)

end Go.Proofs.YtmhfmhmpoobmlaaGreatDoor

/- The contract of least: the parts of a number below the prime. -/
namespace Go.Proofs.YtmhfmhmpoobmlaaGreatDoor
open Go.RowKit

/-- What goes over to the next part when 19 are added. -/
def ov1 (x : E5) : Int := (x.a + 19) / 2251799813685248
def ov2 (x : E5) : Int := (x.b + ov1 x) / 2251799813685248
def ov3 (x : E5) : Int := (x.c + ov2 x) / 2251799813685248
def ov4 (x : E5) : Int := (x.d + ov3 x) / 2251799813685248
def ov5 (x : E5) : Int := (x.e + ov4 x) / 2251799813685248
/-- What goes over when the prime is taken away, or nothing. -/
def le0 (x : E5) : Int := ov5 x * 19
def le1 (x : E5) : Int := (x.a + le0 x) / 2251799813685248
def le2 (x : E5) : Int := (x.b + le1 x) / 2251799813685248
def le3 (x : E5) : Int := (x.c + le2 x) / 2251799813685248
def le4 (x : E5) : Int := (x.d + le3 x) / 2251799813685248
def le5 (x : E5) : Int := (x.e + le4 x) / 2251799813685248
def leastF (x : E5) : E5 := ⟨(x.a + le0 x) % 2251799813685248, (x.b + le1 x) % 2251799813685248, (x.c + le2 x) % 2251799813685248, (x.d + le3 x) % 2251799813685248, (x.e + le4 x) % 2251799813685248⟩

structure LB (x : E5) : Prop where
  o1 : 0 ≤ ov1 x ∧ ov1 x ≤ 1
  o2 : 0 ≤ ov2 x ∧ ov2 x ≤ 1
  o3 : 0 ≤ ov3 x ∧ ov3 x ≤ 1
  o4 : 0 ≤ ov4 x ∧ ov4 x ≤ 1
  o5 : 0 ≤ ov5 x ∧ ov5 x ≤ 1
  l0 : 0 ≤ le0 x ∧ le0 x ≤ 19
  l1 : 0 ≤ le1 x ∧ le1 x ≤ 1
  l2 : 0 ≤ le2 x ∧ le2 x ≤ 1
  l3 : 0 ≤ le3 x ∧ le3 x ≤ 1
  l4 : 0 ≤ le4 x ∧ le4 x ≤ 1
  l5 : 0 ≤ le5 x ∧ le5 x ≤ 1

theorem LB.of {x : E5} (hx : x.Ok) : LB x := by
  obtain ⟨a0, a1, b0, b1, c0, c1, d0, d1, e0, e1⟩ := hx
  have o1 : 0 ≤ ov1 x ∧ ov1 x ≤ 1 := by unfold ov1; omega
  have o2 : 0 ≤ ov2 x ∧ ov2 x ≤ 1 := by unfold ov2; omega
  have o3 : 0 ≤ ov3 x ∧ ov3 x ≤ 1 := by unfold ov3; omega
  have o4 : 0 ≤ ov4 x ∧ ov4 x ≤ 1 := by unfold ov4; omega
  have o5 : 0 ≤ ov5 x ∧ ov5 x ≤ 1 := by unfold ov5; omega
  have l0 : 0 ≤ le0 x ∧ le0 x ≤ 19 := by unfold le0; omega
  have l1 : 0 ≤ le1 x ∧ le1 x ≤ 1 := by unfold le1; omega
  have l2 : 0 ≤ le2 x ∧ le2 x ≤ 1 := by unfold le2; omega
  have l3 : 0 ≤ le3 x ∧ le3 x ≤ 1 := by unfold le3; omega
  have l4 : 0 ≤ le4 x ∧ le4 x ≤ 1 := by unfold le4; omega
  have l5 : 0 ≤ le5 x ∧ le5 x ≤ 1 := by unfold le5; omega
  exact ⟨o1, o2, o3, o4, o5, l0, l1, l2, l3, l4, l5⟩

structure E5.Low (x : E5) : Prop where
  a0 : 0 ≤ x.a
  a1 : x.a < 2251799813685248
  b0 : 0 ≤ x.b
  b1 : x.b < 2251799813685248
  c0 : 0 ≤ x.c
  c1 : x.c < 2251799813685248
  d0 : 0 ≤ x.d
  d1 : x.d < 2251799813685248
  e0 : 0 ≤ x.e
  e1 : x.e < 2251799813685248

theorem leastF_low (x : E5) : (leastF x).Low := by
  constructor <;> simp only [leastF] <;> omega

/-- It is the number below the prime. -/
theorem leastF_n {x : E5} (hx : x.Ok) : (leastF x).n = x.n % Pm := by
  have L := LB.of hx
  obtain ⟨a0, a1, b0, b1, c0, c1, d0, d1, e0, e1⟩ := hx
  have hlow := leastF_low x
  obtain ⟨p0, p1, q0, q1, r0, r1, s0, s1, t0, t1⟩ := hlow
  have e : (leastF x).n = x.n + ov5 x * 19 - 57896044618658097711785492504343953926634992332820282019728792003956564819968 * le5 x := by
    simp only [leastF, E5.n, le5, le4, le3, le2, le1, le0]
    omega
  have hov : 57896044618658097711785492504343953926634992332820282019728792003956564819968 * ov5 x ≤ x.n + 19 ∧ x.n + 19 < 57896044618658097711785492504343953926634992332820282019728792003956564819968 * ov5 x + 57896044618658097711785492504343953926634992332820282019728792003956564819968 := by
    simp only [E5.n, ov5, ov4, ov3, ov2, ov1]
    omega
  have hn0 : 0 ≤ x.n := by simp only [E5.n]; omega
  have hr0 : 0 ≤ (leastF x).n := by rw [E5.n]; omega
  have hr1 : (leastF x).n < 57896044618658097711785492504343953926634992332820282019728792003956564819968 := by rw [E5.n]; omega
  have h5 := L.o5
  have h6 := L.l5
  have hle : le5 x = ov5 x := by omega
  rw [hle] at e
  have hk : x.n = (leastF x).n + ov5 x * Pm := by unfold Pm; omega
  have hn1 : x.n < 115792089237316195423570985008687907853269984665640564039457584007913129639898 := by simp only [E5.n]; omega
  have hlt : (leastF x).n < Pm := by unfold Pm; omega
  rw [hk, Int.add_mul_emod_self_right, Int.emod_eq_of_lt hr0 hlt]

set_option maxRecDepth 100000 in
set_option maxHeartbeats 2000000 in
theorem least_any (x : E5) (w : World) (hx : x.Ok) :
    Calls Tryz.prog 123 #[x.v] w fun r w' => r = .returned (leastF x).v ∧ Below w.heap.size w w' := by
  have L := LB.of hx
  obtain ⟨a0, a1, b0, b1, c0, c1, d0, d1, e0, e1⟩ := hx
  obtain ⟨⟨o10, o11⟩, ⟨o20, o21⟩, ⟨o30, o31⟩, ⟨o40, o41⟩, ⟨o50, o51⟩, ⟨l00, l01⟩, ⟨l10, l11⟩, ⟨l20, l21⟩, ⟨l30, l31⟩, ⟨l40, l41⟩, ⟨l50, l51⟩⟩ := L
  have i0 : ∀ w, (Instr.index 56 (.agg #[.int .u64 x.a, .int .u64 x.b, .int .u64 x.c, .int .u64 x.d, .int .u64 x.e]) (.int .i64 0)).run Tryz.prog w = .ok (.int .u64 x.a) w := fun _ => by kernel_rfl
  have i1 : ∀ w, (Instr.index 56 (.agg #[.int .u64 x.a, .int .u64 x.b, .int .u64 x.c, .int .u64 x.d, .int .u64 x.e]) (.int .i64 1)).run Tryz.prog w = .ok (.int .u64 x.b) w := fun _ => by kernel_rfl
  have i2 : ∀ w, (Instr.index 56 (.agg #[.int .u64 x.a, .int .u64 x.b, .int .u64 x.c, .int .u64 x.d, .int .u64 x.e]) (.int .i64 2)).run Tryz.prog w = .ok (.int .u64 x.c) w := fun _ => by kernel_rfl
  have i3 : ∀ w, (Instr.index 56 (.agg #[.int .u64 x.a, .int .u64 x.b, .int .u64 x.c, .int .u64 x.d, .int .u64 x.e]) (.int .i64 3)).run Tryz.prog w = .ok (.int .u64 x.d) w := fun _ => by kernel_rfl
  have i4 : ∀ w, (Instr.index 56 (.agg #[.int .u64 x.a, .int .u64 x.b, .int .u64 x.c, .int .u64 x.d, .int .u64 x.e]) (.int .i64 4)).run Tryz.prog w = .ok (.int .u64 x.e) w := fun _ => by kernel_rfl
  have g0 := and51 (x := x.a + le0 x) ⟨by omega, by omega⟩
  have g1 := and51 (x := x.b + le1 x) ⟨by omega, by omega⟩
  have g2 := and51 (x := x.c + le2 x) ⟨by omega, by omega⟩
  have g3 := and51 (x := x.d + le3 x) ⟨by omega, by omega⟩
  have g4 := and51 (x := x.e + le4 x) ⟨by omega, by omega⟩
  go_enter Tryz.func123, Tryz.ntmps123
  go_wp2
  refine wp_loop_rounds 6 ?_
  rw [rounds_succ]
  go_wp2
  rw [show (x.a + 19) / 2251799813685248 = ov1 x from rfl]
  rw [rounds_succ]
  go_wp2
  rw [show (x.b + ov1 x) / 2251799813685248 = ov2 x from rfl]
  rw [rounds_succ]
  go_wp2
  rw [show (x.c + ov2 x) / 2251799813685248 = ov3 x from rfl]
  rw [rounds_succ]
  go_wp2
  rw [show (x.d + ov3 x) / 2251799813685248 = ov4 x from rfl]
  rw [rounds_succ]
  go_wp2
  rw [show (x.e + ov4 x) / 2251799813685248 = ov5 x from rfl]
  rw [rounds_succ]
  go_wp2
  rw [show ov5 x * 19 = le0 x from rfl]
  refine wp_loop_rounds 6 ?_
  rw [rounds_succ]
  go_wp2
  rw [show (x.a + le0 x) / 2251799813685248 = le1 x from rfl]
  rw [rounds_succ]
  go_wp2
  rw [show (x.b + le1 x) / 2251799813685248 = le2 x from rfl]
  rw [rounds_succ]
  go_wp2
  rw [show (x.c + le2 x) / 2251799813685248 = le3 x from rfl]
  rw [rounds_succ]
  go_wp2
  rw [show (x.d + le3 x) / 2251799813685248 = le4 x from rfl]
  rw [rounds_succ]
  go_wp2
  rw [show (x.e + le4 x) / 2251799813685248 = le5 x from rfl]
  rw [rounds_succ]
  go_wp2
  exact bodyPost_ret (v := (leastF x).v) (by simp [results, Tryz.results123, go_sem, leastF]) rfl ⟨rfl, (((Below.refl _ _).alloc (Nat.le_refl _) _).alloc (by simp) _).alloc (by simp; omega) _⟩

end Go.Proofs.YtmhfmhmpoobmlaaGreatDoor

/- The contracts of wordsOf, number and Of: which number 32 bytes are. -/
namespace Go.Proofs.YtmhfmhmpoobmlaaGreatDoor
open Go.RowKit

/-- Byte i of a string, as a number. -/
def bt (s : ByteArray) (i : Nat) : Int := ((s.data[i]?.getD 0).toNat : Int)

theorem bt_bd (s : ByteArray) (i : Nat) : 0 ≤ bt s i ∧ bt s i < 256 := by
  unfold bt
  have := (s.data[i]?.getD 0).toNat_lt
  omega

theorem bt_at (s : ByteArray) (i : Nat) (h : i < s.size) : ((s[i]'h).toNat : Int) = bt s i := by
  unfold bt
  have h' : i < s.data.size := h
  rw [Array.getElem?_eq_getElem h']
  rfl

/-- The first r bytes of word j. -/
def sw (s : ByteArray) (j : Nat) : Nat → Int
  | 0 => 0
  | r + 1 => sw s j r + bt s (8 * j + r) * 256 ^ r

theorem sw_bd (s : ByteArray) (j r : Nat) : 0 ≤ sw s j r ∧ sw s j r < 256 ^ r := by
  induction r with
  | zero => simp [sw]
  | succ r ih =>
    have hb := bt_bd s (8 * j + r)
    have hp : (0 : Int) < 256 ^ r := Int.pow_pos (by decide)
    have h1 : bt s (8 * j + r) * 256 ^ r ≤ 255 * 256 ^ r := Int.mul_le_mul_of_nonneg_right (by omega) (by omega)
    have h2 : 0 ≤ bt s (8 * j + r) * 256 ^ r := Int.mul_nonneg hb.1 (by omega)
    have h3 : (256 : Int) ^ (r + 1) = 256 * 256 ^ r := by rw [Int.pow_succ, Int.mul_comm]
    simp only [sw]
    omega

theorem swor0 (s : ByteArray) (j i : Nat) (hi : i = 8 * j + 0) : bits BinOp.or IntKind.u64 0 (bt s i) = sw s j 1 := by
  have hb := bt_bd s i
  rw [or_join 8 256 (by decide) ⟨by decide, by decide⟩ ⟨hb.1, by omega⟩ (by decide) (by omega)]
  simp [sw, hi]

theorem swor1 (s : ByteArray) (j i : Nat) (hi : i = 8 * j + 1) : bits BinOp.or IntKind.u64 (sw s j 1) (bt s i * 256) = sw s j 2 := by
  have hb := bt_bd s i
  have hs := sw_bd s j 1
  have e : (256 : Int) ^ 1 = 256 := by decide
  rw [e] at hs
  rw [or_join' 8 256 (by decide) ⟨hs.1, by omega⟩ ⟨by omega, by omega⟩ (by omega) (by omega)]
  show _ = sw s j 1 + bt s (8 * j + 1) * 256 ^ 1
  rw [e, hi]

theorem swor2 (s : ByteArray) (j i : Nat) (hi : i = 8 * j + 2) : bits BinOp.or IntKind.u64 (sw s j 2) (bt s i * 65536) = sw s j 3 := by
  have hb := bt_bd s i
  have hs := sw_bd s j 2
  have e : (256 : Int) ^ 2 = 65536 := by decide
  rw [e] at hs
  rw [or_join' 16 65536 (by decide) ⟨hs.1, by omega⟩ ⟨by omega, by omega⟩ (by omega) (by omega)]
  show _ = sw s j 2 + bt s (8 * j + 2) * 256 ^ 2
  rw [e, hi]

theorem swor3 (s : ByteArray) (j i : Nat) (hi : i = 8 * j + 3) : bits BinOp.or IntKind.u64 (sw s j 3) (bt s i * 16777216) = sw s j 4 := by
  have hb := bt_bd s i
  have hs := sw_bd s j 3
  have e : (256 : Int) ^ 3 = 16777216 := by decide
  rw [e] at hs
  rw [or_join' 24 16777216 (by decide) ⟨hs.1, by omega⟩ ⟨by omega, by omega⟩ (by omega) (by omega)]
  show _ = sw s j 3 + bt s (8 * j + 3) * 256 ^ 3
  rw [e, hi]

theorem swor4 (s : ByteArray) (j i : Nat) (hi : i = 8 * j + 4) : bits BinOp.or IntKind.u64 (sw s j 4) (bt s i * 4294967296) = sw s j 5 := by
  have hb := bt_bd s i
  have hs := sw_bd s j 4
  have e : (256 : Int) ^ 4 = 4294967296 := by decide
  rw [e] at hs
  rw [or_join' 32 4294967296 (by decide) ⟨hs.1, by omega⟩ ⟨by omega, by omega⟩ (by omega) (by omega)]
  show _ = sw s j 4 + bt s (8 * j + 4) * 256 ^ 4
  rw [e, hi]

theorem swor5 (s : ByteArray) (j i : Nat) (hi : i = 8 * j + 5) : bits BinOp.or IntKind.u64 (sw s j 5) (bt s i * 1099511627776) = sw s j 6 := by
  have hb := bt_bd s i
  have hs := sw_bd s j 5
  have e : (256 : Int) ^ 5 = 1099511627776 := by decide
  rw [e] at hs
  rw [or_join' 40 1099511627776 (by decide) ⟨hs.1, by omega⟩ ⟨by omega, by omega⟩ (by omega) (by omega)]
  show _ = sw s j 5 + bt s (8 * j + 5) * 256 ^ 5
  rw [e, hi]

theorem swor6 (s : ByteArray) (j i : Nat) (hi : i = 8 * j + 6) : bits BinOp.or IntKind.u64 (sw s j 6) (bt s i * 281474976710656) = sw s j 7 := by
  have hb := bt_bd s i
  have hs := sw_bd s j 6
  have e : (256 : Int) ^ 6 = 281474976710656 := by decide
  rw [e] at hs
  rw [or_join' 48 281474976710656 (by decide) ⟨hs.1, by omega⟩ ⟨by omega, by omega⟩ (by omega) (by omega)]
  show _ = sw s j 6 + bt s (8 * j + 6) * 256 ^ 6
  rw [e, hi]

theorem swor7 (s : ByteArray) (j i : Nat) (hi : i = 8 * j + 7) : bits BinOp.or IntKind.u64 (sw s j 7) (bt s i * 72057594037927936) = sw s j 8 := by
  have hb := bt_bd s i
  have hs := sw_bd s j 7
  have e : (256 : Int) ^ 7 = 72057594037927936 := by decide
  rw [e] at hs
  rw [or_join' 56 72057594037927936 (by decide) ⟨hs.1, by omega⟩ ⟨by omega, by omega⟩ (by omega) (by omega)]
  show _ = sw s j 7 + bt s (8 * j + 7) * 256 ^ 7
  rw [e, hi]

/-- The memory of wordsOf: the result's block and the words so far. -/
structure WW (w W : World) (a b c d : Int) : Prop where
  old : Below w.heap.size w W
  size : w.heap.size + 1 < W.heap.size
  free : ∀ o, W.frozen? ⟨w.heap.size + 1, o, none⟩ = false
  free0 : ∀ o, W.frozen? ⟨w.heap.size, o, none⟩ = false
  c0 : W.cell? ⟨w.heap.size + 1, 0, none⟩ = some (.int .u64 a)
  c1 : W.cell? ⟨w.heap.size + 1, 1, none⟩ = some (.int .u64 b)
  c2 : W.cell? ⟨w.heap.size + 1, 2, none⟩ = some (.int .u64 c)
  c3 : W.cell? ⟨w.heap.size + 1, 3, none⟩ = some (.int .u64 d)
  r0 : W.cell? ⟨w.heap.size, 0, none⟩ = some (.int .u64 0)
  r1 : W.cell? ⟨w.heap.size, 1, none⟩ = some (.int .u64 0)
  r2 : W.cell? ⟨w.heap.size, 2, none⟩ = some (.int .u64 0)
  r3 : W.cell? ⟨w.heap.size, 3, none⟩ = some (.int .u64 0)

theorem WW.start (w : World) : WW w ((w.alloc (.cells #[.int .u64 0, .int .u64 0, .int .u64 0, .int .u64 0] 147)).alloc (.cells #[.int .u64 0, .int .u64 0, .int .u64 0, .int .u64 0] 147)) 0 0 0 0 := by
  refine ⟨((Below.refl _ _).alloc (Nat.le_refl _) _).alloc (by simp) _, by simp, ?_, ?_, ?_, ?_, ?_, ?_, ?_, ?_, ?_, ?_⟩ <;> simp [go_sem]

theorem WW.set0 {w W : World} {a b c d : Int} (h : WW w W a b c d) (v : Int) : WW w (W.setCell ⟨w.heap.size + 1, 0, none⟩ (.int .u64 v)).drew v b c d := by
  obtain ⟨h1, h2, h3, h4, h5, h6, h7, h8, h9, h10, h11, h12⟩ := h
  refine ⟨(h1.setCell (p := ⟨w.heap.size + 1, 0, none⟩) (by simp) _).drew, ?_, ?_, ?_, ?_, ?_, ?_, ?_, ?_, ?_, ?_, ?_⟩ <;> simp [go_sem, h2, h3, h4, h5, h6, h7, h8, h9, h10, h11, h12]

theorem WW.set1 {w W : World} {a b c d : Int} (h : WW w W a b c d) (v : Int) : WW w (W.setCell ⟨w.heap.size + 1, 1, none⟩ (.int .u64 v)).drew a v c d := by
  obtain ⟨h1, h2, h3, h4, h5, h6, h7, h8, h9, h10, h11, h12⟩ := h
  refine ⟨(h1.setCell (p := ⟨w.heap.size + 1, 1, none⟩) (by simp) _).drew, ?_, ?_, ?_, ?_, ?_, ?_, ?_, ?_, ?_, ?_, ?_⟩ <;> simp [go_sem, h2, h3, h4, h5, h6, h7, h8, h9, h10, h11, h12]

theorem WW.set2 {w W : World} {a b c d : Int} (h : WW w W a b c d) (v : Int) : WW w (W.setCell ⟨w.heap.size + 1, 2, none⟩ (.int .u64 v)).drew a b v d := by
  obtain ⟨h1, h2, h3, h4, h5, h6, h7, h8, h9, h10, h11, h12⟩ := h
  refine ⟨(h1.setCell (p := ⟨w.heap.size + 1, 2, none⟩) (by simp) _).drew, ?_, ?_, ?_, ?_, ?_, ?_, ?_, ?_, ?_, ?_, ?_⟩ <;> simp [go_sem, h2, h3, h4, h5, h6, h7, h8, h9, h10, h11, h12]

theorem WW.set3 {w W : World} {a b c d : Int} (h : WW w W a b c d) (v : Int) : WW w (W.setCell ⟨w.heap.size + 1, 3, none⟩ (.int .u64 v)).drew a b c v := by
  obtain ⟨h1, h2, h3, h4, h5, h6, h7, h8, h9, h10, h11, h12⟩ := h
  refine ⟨(h1.setCell (p := ⟨w.heap.size + 1, 3, none⟩) (by simp) _).drew, ?_, ?_, ?_, ?_, ?_, ?_, ?_, ?_, ?_, ?_, ?_⟩ <;> simp [go_sem, h2, h3, h4, h5, h6, h7, h8, h9, h10, h11, h12]

/-- Word j when k bytes have been read. -/
def swk (s : ByteArray) (k j : Nat) : Int := sw s j (min (k - 8 * j) 8)

set_option maxRecDepth 100000 in
set_option maxHeartbeats 8000000 in
theorem wordsOf_any (s : ByteArray) (w : World) (hs : s.size = 32) :
    Calls Tryz.prog 130 #[.string s] w fun r w' => r = .returned (.agg #[.int .u64 (sw s 0 8), .int .u64 (sw s 1 8), .int .u64 (sw s 2 8), .int .u64 (sw s 3 8)]) ∧ Below w.heap.size w w' := by
  go_enter Tryz.func130, Tryz.ntmps130
  go_wp2
  have H0 := WW.start w
  generalize (w.alloc (.cells #[.int .u64 0, .int .u64 0, .int .u64 0, .int .u64 0] 147)).alloc (.cells #[.int .u64 0, .int .u64 0, .int .u64 0, .int .u64 0] 147) = W at H0 ⊢
  go_loopw [5] (fun c wr => ∃ k : Nat, k ≤ 32 ∧ c = .int .i64 k ∧ WW w wr (swk s k 0) (swk s k 1) (swk s k 2) (swk s k 3)) (fun c _ => 32 - (intOf c).toNat)
  case atStart => exact ⟨0, by omega, rfl, H0⟩
  case round =>
    clear H0
    obtain ⟨k, hk, rfl, H⟩ := hrel
    by_cases hlt : k < 32
    · have hc : k = 0 ∨ k = 1 ∨ k = 2 ∨ k = 3 ∨ k = 4 ∨ k = 5 ∨ k = 6 ∨ k = 7 ∨ k = 8 ∨ k = 9 ∨ k = 10 ∨ k = 11 ∨ k = 12 ∨ k = 13 ∨ k = 14 ∨ k = 15 ∨ k = 16 ∨ k = 17 ∨ k = 18 ∨ k = 19 ∨ k = 20 ∨ k = 21 ∨ k = 22 ∨ k = 23 ∨ k = 24 ∨ k = 25 ∨ k = 26 ∨ k = 27 ∨ k = 28 ∨ k = 29 ∨ k = 30 ∨ k = 31 := by omega
      clear hlt hk
      rcases hc with rfl | rfl | rfl | rfl | rfl | rfl | rfl | rfl | rfl | rfl | rfl | rfl | rfl | rfl | rfl | rfl | rfl | rfl | rfl | rfl | rfl | rfl | rfl | rfl | rfl | rfl | rfl | rfl | rfl | rfl | rfl | rfl
      · replace H : WW w wr (sw s 0 0) (sw s 1 0) (sw s 2 0) (sw s 3 0) := H
        have hb := bt_at s 0 (by omega)
        obtain ⟨p, q⟩ := bt_bd s 0
        have e := swor0 s 0 0 (by decide)
        have c := H.c0
        have f := H.free
        rw [show sw s 0 0 = 0 from rfl] at c
        replace H := hide (H.set0 (sw s 0 1))
        go_wp2
        go_region
        go_wp2
        go_roundw
        case rel => exact ⟨1, by omega, rfl, H.out⟩
        case measure => simp [intOf]
      · replace H : WW w wr (sw s 0 1) (sw s 1 0) (sw s 2 0) (sw s 3 0) := H
        have hb := bt_at s 1 (by omega)
        obtain ⟨p, q⟩ := bt_bd s 1
        have e := swor1 s 0 1 (by decide)
        have c := H.c0
        have f := H.free
        skip
        replace H := hide (H.set0 (sw s 0 2))
        go_wp2
        go_region
        go_wp2
        go_roundw
        case rel => exact ⟨2, by omega, rfl, H.out⟩
        case measure => simp [intOf]
      · replace H : WW w wr (sw s 0 2) (sw s 1 0) (sw s 2 0) (sw s 3 0) := H
        have hb := bt_at s 2 (by omega)
        obtain ⟨p, q⟩ := bt_bd s 2
        have e := swor2 s 0 2 (by decide)
        have c := H.c0
        have f := H.free
        skip
        replace H := hide (H.set0 (sw s 0 3))
        go_wp2
        go_region
        go_wp2
        go_roundw
        case rel => exact ⟨3, by omega, rfl, H.out⟩
        case measure => simp [intOf]
      · replace H : WW w wr (sw s 0 3) (sw s 1 0) (sw s 2 0) (sw s 3 0) := H
        have hb := bt_at s 3 (by omega)
        obtain ⟨p, q⟩ := bt_bd s 3
        have e := swor3 s 0 3 (by decide)
        have c := H.c0
        have f := H.free
        skip
        replace H := hide (H.set0 (sw s 0 4))
        go_wp2
        go_region
        go_wp2
        go_roundw
        case rel => exact ⟨4, by omega, rfl, H.out⟩
        case measure => simp [intOf]
      · replace H : WW w wr (sw s 0 4) (sw s 1 0) (sw s 2 0) (sw s 3 0) := H
        have hb := bt_at s 4 (by omega)
        obtain ⟨p, q⟩ := bt_bd s 4
        have e := swor4 s 0 4 (by decide)
        have c := H.c0
        have f := H.free
        skip
        replace H := hide (H.set0 (sw s 0 5))
        go_wp2
        go_region
        go_wp2
        go_roundw
        case rel => exact ⟨5, by omega, rfl, H.out⟩
        case measure => simp [intOf]
      · replace H : WW w wr (sw s 0 5) (sw s 1 0) (sw s 2 0) (sw s 3 0) := H
        have hb := bt_at s 5 (by omega)
        obtain ⟨p, q⟩ := bt_bd s 5
        have e := swor5 s 0 5 (by decide)
        have c := H.c0
        have f := H.free
        skip
        replace H := hide (H.set0 (sw s 0 6))
        go_wp2
        go_region
        go_wp2
        go_roundw
        case rel => exact ⟨6, by omega, rfl, H.out⟩
        case measure => simp [intOf]
      · replace H : WW w wr (sw s 0 6) (sw s 1 0) (sw s 2 0) (sw s 3 0) := H
        have hb := bt_at s 6 (by omega)
        obtain ⟨p, q⟩ := bt_bd s 6
        have e := swor6 s 0 6 (by decide)
        have c := H.c0
        have f := H.free
        skip
        replace H := hide (H.set0 (sw s 0 7))
        go_wp2
        go_region
        go_wp2
        go_roundw
        case rel => exact ⟨7, by omega, rfl, H.out⟩
        case measure => simp [intOf]
      · replace H : WW w wr (sw s 0 7) (sw s 1 0) (sw s 2 0) (sw s 3 0) := H
        have hb := bt_at s 7 (by omega)
        obtain ⟨p, q⟩ := bt_bd s 7
        have e := swor7 s 0 7 (by decide)
        have c := H.c0
        have f := H.free
        skip
        replace H := hide (H.set0 (sw s 0 8))
        go_wp2
        go_region
        go_wp2
        go_roundw
        case rel => exact ⟨8, by omega, rfl, H.out⟩
        case measure => simp [intOf]
      · replace H : WW w wr (sw s 0 8) (sw s 1 0) (sw s 2 0) (sw s 3 0) := H
        have hb := bt_at s 8 (by omega)
        obtain ⟨p, q⟩ := bt_bd s 8
        have e := swor0 s 1 8 (by decide)
        have c := H.c1
        have f := H.free
        rw [show sw s 1 0 = 0 from rfl] at c
        replace H := hide (H.set1 (sw s 1 1))
        go_wp2
        go_region
        go_wp2
        go_roundw
        case rel => exact ⟨9, by omega, rfl, H.out⟩
        case measure => simp [intOf]
      · replace H : WW w wr (sw s 0 8) (sw s 1 1) (sw s 2 0) (sw s 3 0) := H
        have hb := bt_at s 9 (by omega)
        obtain ⟨p, q⟩ := bt_bd s 9
        have e := swor1 s 1 9 (by decide)
        have c := H.c1
        have f := H.free
        skip
        replace H := hide (H.set1 (sw s 1 2))
        go_wp2
        go_region
        go_wp2
        go_roundw
        case rel => exact ⟨10, by omega, rfl, H.out⟩
        case measure => simp [intOf]
      · replace H : WW w wr (sw s 0 8) (sw s 1 2) (sw s 2 0) (sw s 3 0) := H
        have hb := bt_at s 10 (by omega)
        obtain ⟨p, q⟩ := bt_bd s 10
        have e := swor2 s 1 10 (by decide)
        have c := H.c1
        have f := H.free
        skip
        replace H := hide (H.set1 (sw s 1 3))
        go_wp2
        go_region
        go_wp2
        go_roundw
        case rel => exact ⟨11, by omega, rfl, H.out⟩
        case measure => simp [intOf]
      · replace H : WW w wr (sw s 0 8) (sw s 1 3) (sw s 2 0) (sw s 3 0) := H
        have hb := bt_at s 11 (by omega)
        obtain ⟨p, q⟩ := bt_bd s 11
        have e := swor3 s 1 11 (by decide)
        have c := H.c1
        have f := H.free
        skip
        replace H := hide (H.set1 (sw s 1 4))
        go_wp2
        go_region
        go_wp2
        go_roundw
        case rel => exact ⟨12, by omega, rfl, H.out⟩
        case measure => simp [intOf]
      · replace H : WW w wr (sw s 0 8) (sw s 1 4) (sw s 2 0) (sw s 3 0) := H
        have hb := bt_at s 12 (by omega)
        obtain ⟨p, q⟩ := bt_bd s 12
        have e := swor4 s 1 12 (by decide)
        have c := H.c1
        have f := H.free
        skip
        replace H := hide (H.set1 (sw s 1 5))
        go_wp2
        go_region
        go_wp2
        go_roundw
        case rel => exact ⟨13, by omega, rfl, H.out⟩
        case measure => simp [intOf]
      · replace H : WW w wr (sw s 0 8) (sw s 1 5) (sw s 2 0) (sw s 3 0) := H
        have hb := bt_at s 13 (by omega)
        obtain ⟨p, q⟩ := bt_bd s 13
        have e := swor5 s 1 13 (by decide)
        have c := H.c1
        have f := H.free
        skip
        replace H := hide (H.set1 (sw s 1 6))
        go_wp2
        go_region
        go_wp2
        go_roundw
        case rel => exact ⟨14, by omega, rfl, H.out⟩
        case measure => simp [intOf]
      · replace H : WW w wr (sw s 0 8) (sw s 1 6) (sw s 2 0) (sw s 3 0) := H
        have hb := bt_at s 14 (by omega)
        obtain ⟨p, q⟩ := bt_bd s 14
        have e := swor6 s 1 14 (by decide)
        have c := H.c1
        have f := H.free
        skip
        replace H := hide (H.set1 (sw s 1 7))
        go_wp2
        go_region
        go_wp2
        go_roundw
        case rel => exact ⟨15, by omega, rfl, H.out⟩
        case measure => simp [intOf]
      · replace H : WW w wr (sw s 0 8) (sw s 1 7) (sw s 2 0) (sw s 3 0) := H
        have hb := bt_at s 15 (by omega)
        obtain ⟨p, q⟩ := bt_bd s 15
        have e := swor7 s 1 15 (by decide)
        have c := H.c1
        have f := H.free
        skip
        replace H := hide (H.set1 (sw s 1 8))
        go_wp2
        go_region
        go_wp2
        go_roundw
        case rel => exact ⟨16, by omega, rfl, H.out⟩
        case measure => simp [intOf]
      · replace H : WW w wr (sw s 0 8) (sw s 1 8) (sw s 2 0) (sw s 3 0) := H
        have hb := bt_at s 16 (by omega)
        obtain ⟨p, q⟩ := bt_bd s 16
        have e := swor0 s 2 16 (by decide)
        have c := H.c2
        have f := H.free
        rw [show sw s 2 0 = 0 from rfl] at c
        replace H := hide (H.set2 (sw s 2 1))
        go_wp2
        go_region
        go_wp2
        go_roundw
        case rel => exact ⟨17, by omega, rfl, H.out⟩
        case measure => simp [intOf]
      · replace H : WW w wr (sw s 0 8) (sw s 1 8) (sw s 2 1) (sw s 3 0) := H
        have hb := bt_at s 17 (by omega)
        obtain ⟨p, q⟩ := bt_bd s 17
        have e := swor1 s 2 17 (by decide)
        have c := H.c2
        have f := H.free
        skip
        replace H := hide (H.set2 (sw s 2 2))
        go_wp2
        go_region
        go_wp2
        go_roundw
        case rel => exact ⟨18, by omega, rfl, H.out⟩
        case measure => simp [intOf]
      · replace H : WW w wr (sw s 0 8) (sw s 1 8) (sw s 2 2) (sw s 3 0) := H
        have hb := bt_at s 18 (by omega)
        obtain ⟨p, q⟩ := bt_bd s 18
        have e := swor2 s 2 18 (by decide)
        have c := H.c2
        have f := H.free
        skip
        replace H := hide (H.set2 (sw s 2 3))
        go_wp2
        go_region
        go_wp2
        go_roundw
        case rel => exact ⟨19, by omega, rfl, H.out⟩
        case measure => simp [intOf]
      · replace H : WW w wr (sw s 0 8) (sw s 1 8) (sw s 2 3) (sw s 3 0) := H
        have hb := bt_at s 19 (by omega)
        obtain ⟨p, q⟩ := bt_bd s 19
        have e := swor3 s 2 19 (by decide)
        have c := H.c2
        have f := H.free
        skip
        replace H := hide (H.set2 (sw s 2 4))
        go_wp2
        go_region
        go_wp2
        go_roundw
        case rel => exact ⟨20, by omega, rfl, H.out⟩
        case measure => simp [intOf]
      · replace H : WW w wr (sw s 0 8) (sw s 1 8) (sw s 2 4) (sw s 3 0) := H
        have hb := bt_at s 20 (by omega)
        obtain ⟨p, q⟩ := bt_bd s 20
        have e := swor4 s 2 20 (by decide)
        have c := H.c2
        have f := H.free
        skip
        replace H := hide (H.set2 (sw s 2 5))
        go_wp2
        go_region
        go_wp2
        go_roundw
        case rel => exact ⟨21, by omega, rfl, H.out⟩
        case measure => simp [intOf]
      · replace H : WW w wr (sw s 0 8) (sw s 1 8) (sw s 2 5) (sw s 3 0) := H
        have hb := bt_at s 21 (by omega)
        obtain ⟨p, q⟩ := bt_bd s 21
        have e := swor5 s 2 21 (by decide)
        have c := H.c2
        have f := H.free
        skip
        replace H := hide (H.set2 (sw s 2 6))
        go_wp2
        go_region
        go_wp2
        go_roundw
        case rel => exact ⟨22, by omega, rfl, H.out⟩
        case measure => simp [intOf]
      · replace H : WW w wr (sw s 0 8) (sw s 1 8) (sw s 2 6) (sw s 3 0) := H
        have hb := bt_at s 22 (by omega)
        obtain ⟨p, q⟩ := bt_bd s 22
        have e := swor6 s 2 22 (by decide)
        have c := H.c2
        have f := H.free
        skip
        replace H := hide (H.set2 (sw s 2 7))
        go_wp2
        go_region
        go_wp2
        go_roundw
        case rel => exact ⟨23, by omega, rfl, H.out⟩
        case measure => simp [intOf]
      · replace H : WW w wr (sw s 0 8) (sw s 1 8) (sw s 2 7) (sw s 3 0) := H
        have hb := bt_at s 23 (by omega)
        obtain ⟨p, q⟩ := bt_bd s 23
        have e := swor7 s 2 23 (by decide)
        have c := H.c2
        have f := H.free
        skip
        replace H := hide (H.set2 (sw s 2 8))
        go_wp2
        go_region
        go_wp2
        go_roundw
        case rel => exact ⟨24, by omega, rfl, H.out⟩
        case measure => simp [intOf]
      · replace H : WW w wr (sw s 0 8) (sw s 1 8) (sw s 2 8) (sw s 3 0) := H
        have hb := bt_at s 24 (by omega)
        obtain ⟨p, q⟩ := bt_bd s 24
        have e := swor0 s 3 24 (by decide)
        have c := H.c3
        have f := H.free
        rw [show sw s 3 0 = 0 from rfl] at c
        replace H := hide (H.set3 (sw s 3 1))
        go_wp2
        go_region
        go_wp2
        go_roundw
        case rel => exact ⟨25, by omega, rfl, H.out⟩
        case measure => simp [intOf]
      · replace H : WW w wr (sw s 0 8) (sw s 1 8) (sw s 2 8) (sw s 3 1) := H
        have hb := bt_at s 25 (by omega)
        obtain ⟨p, q⟩ := bt_bd s 25
        have e := swor1 s 3 25 (by decide)
        have c := H.c3
        have f := H.free
        skip
        replace H := hide (H.set3 (sw s 3 2))
        go_wp2
        go_region
        go_wp2
        go_roundw
        case rel => exact ⟨26, by omega, rfl, H.out⟩
        case measure => simp [intOf]
      · replace H : WW w wr (sw s 0 8) (sw s 1 8) (sw s 2 8) (sw s 3 2) := H
        have hb := bt_at s 26 (by omega)
        obtain ⟨p, q⟩ := bt_bd s 26
        have e := swor2 s 3 26 (by decide)
        have c := H.c3
        have f := H.free
        skip
        replace H := hide (H.set3 (sw s 3 3))
        go_wp2
        go_region
        go_wp2
        go_roundw
        case rel => exact ⟨27, by omega, rfl, H.out⟩
        case measure => simp [intOf]
      · replace H : WW w wr (sw s 0 8) (sw s 1 8) (sw s 2 8) (sw s 3 3) := H
        have hb := bt_at s 27 (by omega)
        obtain ⟨p, q⟩ := bt_bd s 27
        have e := swor3 s 3 27 (by decide)
        have c := H.c3
        have f := H.free
        skip
        replace H := hide (H.set3 (sw s 3 4))
        go_wp2
        go_region
        go_wp2
        go_roundw
        case rel => exact ⟨28, by omega, rfl, H.out⟩
        case measure => simp [intOf]
      · replace H : WW w wr (sw s 0 8) (sw s 1 8) (sw s 2 8) (sw s 3 4) := H
        have hb := bt_at s 28 (by omega)
        obtain ⟨p, q⟩ := bt_bd s 28
        have e := swor4 s 3 28 (by decide)
        have c := H.c3
        have f := H.free
        skip
        replace H := hide (H.set3 (sw s 3 5))
        go_wp2
        go_region
        go_wp2
        go_roundw
        case rel => exact ⟨29, by omega, rfl, H.out⟩
        case measure => simp [intOf]
      · replace H : WW w wr (sw s 0 8) (sw s 1 8) (sw s 2 8) (sw s 3 5) := H
        have hb := bt_at s 29 (by omega)
        obtain ⟨p, q⟩ := bt_bd s 29
        have e := swor5 s 3 29 (by decide)
        have c := H.c3
        have f := H.free
        skip
        replace H := hide (H.set3 (sw s 3 6))
        go_wp2
        go_region
        go_wp2
        go_roundw
        case rel => exact ⟨30, by omega, rfl, H.out⟩
        case measure => simp [intOf]
      · replace H : WW w wr (sw s 0 8) (sw s 1 8) (sw s 2 8) (sw s 3 6) := H
        have hb := bt_at s 30 (by omega)
        obtain ⟨p, q⟩ := bt_bd s 30
        have e := swor6 s 3 30 (by decide)
        have c := H.c3
        have f := H.free
        skip
        replace H := hide (H.set3 (sw s 3 7))
        go_wp2
        go_region
        go_wp2
        go_roundw
        case rel => exact ⟨31, by omega, rfl, H.out⟩
        case measure => simp [intOf]
      · replace H : WW w wr (sw s 0 8) (sw s 1 8) (sw s 2 8) (sw s 3 7) := H
        have hb := bt_at s 31 (by omega)
        obtain ⟨p, q⟩ := bt_bd s 31
        have e := swor7 s 3 31 (by decide)
        have c := H.c3
        have f := H.free
        skip
        replace H := hide (H.set3 (sw s 3 8))
        go_wp2
        go_region
        go_wp2
        go_roundw
        case rel => exact ⟨32, by omega, rfl, H.out⟩
        case measure => simp [intOf]
    · have e : k = 32 := by omega
      subst e
      replace H : WW w wr (sw s 0 8) (sw s 1 8) (sw s 2 8) (sw s 3 8) := H
      obtain ⟨h1, h2, h3, h4, h5, h6, h7, h8, h9, h10, h11, h12⟩ := H
      have H1 := hide h1
      clear h1
      go_wp2
      refine bodyPost_ret (v := .agg #[.int .u64 (sw s 0 8), .int .u64 (sw s 1 8), .int .u64 (sw s 2 8), .int .u64 (sw s 3 8)]) (by simp [results, Tryz.results130, go_sem, h9, h10, h11, h12]) rfl ⟨rfl, ?_⟩
      exact (((H1.out.setCell (p := ⟨w.heap.size, 0, none⟩) (Nat.le_refl _) _).setCell (p := ⟨w.heap.size, 1, none⟩) (Nat.le_refl _) _).setCell (p := ⟨w.heap.size, 2, none⟩) (Nat.le_refl _) _).setCell (p := ⟨w.heap.size, 3, none⟩) (Nat.le_refl _) _

end Go.Proofs.YtmhfmhmpoobmlaaGreatDoor

/- The contracts of number, Of and of: which number 32 bytes are. -/
namespace Go.Proofs.YtmhfmhmpoobmlaaGreatDoor
open Go.RowKit

def numberF (a b c d : Int) : E5 := car (a % 2251799813685248) ((a / 2251799813685248 + b * 8192) % 2251799813685248) ((b / 274877906944 + c * 67108864) % 2251799813685248) ((c / 33554432 + d * 549755813888) % 2251799813685248) (d / 4096)

theorem part1 {a b : Int} (ha : W64 a) (_hb : W64 b) : bits BinOp.and IntKind.u64 (bits BinOp.or IntKind.u64 (a / 2251799813685248) (IntKind.u64.wrap (b * 8192))) 2251799813685247 = (a / 2251799813685248 + b * 8192) % 2251799813685248 := by
  unfold W64 at *
  rw [IntKind.wrap_u64, or_join' 13 8192 (by decide) ⟨by omega, by omega⟩ ⟨by omega, by omega⟩ (by omega) (by omega), and51 ⟨by omega, by omega⟩]
  omega
theorem part2 {a b : Int} (ha : W64 a) (_hb : W64 b) : bits BinOp.and IntKind.u64 (bits BinOp.or IntKind.u64 (a / 274877906944) (IntKind.u64.wrap (b * 67108864))) 2251799813685247 = (a / 274877906944 + b * 67108864) % 2251799813685248 := by
  unfold W64 at *
  rw [IntKind.wrap_u64, or_join' 26 67108864 (by decide) ⟨by omega, by omega⟩ ⟨by omega, by omega⟩ (by omega) (by omega), and51 ⟨by omega, by omega⟩]
  omega
theorem part3 {a b : Int} (ha : W64 a) (_hb : W64 b) : bits BinOp.and IntKind.u64 (bits BinOp.or IntKind.u64 (a / 33554432) (IntKind.u64.wrap (b * 549755813888))) 2251799813685247 = (a / 33554432 + b * 549755813888) % 2251799813685248 := by
  unfold W64 at *
  rw [IntKind.wrap_u64, or_join' 39 549755813888 (by decide) ⟨by omega, by omega⟩ ⟨by omega, by omega⟩ (by omega) (by omega), and51 ⟨by omega, by omega⟩]
  omega

theorem numberF_ok {a b c d : Int} (_ha : W64 a) (_hb : W64 b) (_hc : W64 c) (hd : W64 d) : (numberF a b c d).Ok := by
  unfold W64 at *
  exact car_ok ⟨by omega, by omega⟩ ⟨by omega, by omega⟩ ⟨by omega, by omega⟩ ⟨by omega, by omega⟩ ⟨by omega, by omega⟩

theorem numberF_n {a b c d : Int} (ha : W64 a) (hb : W64 b) (hc : W64 c) (_hd : W64 d) : Cg (numberF a b c d).n (a + 18446744073709551616 * b + 340282366920938463463374607431768211456 * c + 6277101735386680763835789423207666416102355444464034512896 * d) := by
  refine (car_n _ _ _ _ _).trans (Cg.of_eq ?_)
  unfold W64 at *
  simp only [E5.n]
  omega

set_option maxHeartbeats 400000 in
theorem number_any (a b c d : Int) (w : World) (ha : W64 a) (hb : W64 b) (hc : W64 c) (hd : W64 d) :
    Calls Tryz.prog 131 #[.agg #[.int .u64 a, .int .u64 b, .int .u64 c, .int .u64 d]] w fun r w' => r = .returned (numberF a b c d).v ∧ Below w.heap.size w w' := by
  have e0 := and51 ha
  have e1 := part1 ha hb
  have e2 := part2 hb hc
  have e3 := part3 hc hd
  have HE := hide (show numberF a b c d = car (a % 2251799813685248) ((a / 2251799813685248 + b * 8192) % 2251799813685248) ((b / 274877906944 + c * 67108864) % 2251799813685248) ((c / 33554432 + d * 549755813888) % 2251799813685248) (d / 4096) from rfl)
  have q0 : W64 (a % 2251799813685248) := ⟨by omega, by omega⟩
  have q1 : W64 ((a / 2251799813685248 + b * 8192) % 2251799813685248) := ⟨by omega, by omega⟩
  have q2 : W64 ((b / 274877906944 + c * 67108864) % 2251799813685248) := ⟨by omega, by omega⟩
  have q3 : W64 ((c / 33554432 + d * 549755813888) % 2251799813685248) := ⟨by omega, by omega⟩
  have q4 : W64 (d / 4096) := by unfold W64 at *; exact ⟨by omega, by omega⟩
  go_enter Tryz.func131, Tryz.ntmps131
  go_wp2_with fail
  have R := Out.start1 w (.cells #[.int .u64 a, .int .u64 b, .int .u64 c, .int .u64 d] 147)
  refine (carried_any _ _ _ _ _ _ q0 q1 q2 q3 q4).mono ?_
  rintro _ w1 ⟨rfl, hb⟩
  replace R := R.keep hb
  rw [← HE.out]
  clear HE
  generalize hz : numberF a b c d = z
  have HE := hide hz
  clear hz
  clear hb q0 q1 q2 q3 q4 e0 e1 e2 e3
  obtain ⟨old, ge, rs, rf, r0, r1, r2, r3, r4⟩ := R
  have O := hide old
  clear old
  go_wp2
  refine bodyPost_ret (v := z.v) (by simp [results, Tryz.results131, go_sem, r0, r1, r2, r3, r4]) rfl ⟨by rw [HE.out], ?_⟩
  exact five O.out ge

/-- The number that 32 bytes are. -/
def val (s : ByteArray) : Int := sw s 0 8 + 18446744073709551616 * sw s 1 8 + 340282366920938463463374607431768211456 * sw s 2 8 + 6277101735386680763835789423207666416102355444464034512896 * sw s 3 8
def ofF (s : ByteArray) : E5 := numberF (sw s 0 8) (sw s 1 8) (sw s 2 8) (sw s 3 8)

theorem sw64 (s : ByteArray) (j : Nat) : W64 (sw s j 8) := by
  have h := sw_bd s j 8
  have e : (256 : Int) ^ 8 = 18446744073709551616 := by decide
  rw [e] at h
  exact h

theorem ofF_ok (s : ByteArray) : (ofF s).Ok := numberF_ok (sw64 s 0) (sw64 s 1) (sw64 s 2) (sw64 s 3)
theorem ofF_n (s : ByteArray) : Cg (ofF s).n (val s) := numberF_n (sw64 s 0) (sw64 s 1) (sw64 s 2) (sw64 s 3)

set_option maxHeartbeats 400000 in
theorem of_yes (s : ByteArray) (w : World) (hs : s.size = 32) :
    Calls Tryz.prog 78 #[.string s] w fun r w' => r = .returned (.tuple #[(ofF s).v, .int .i64 0]) ∧ Below w.heap.size w w' := by
  have n0 : ((s.size : Int) != 32) = false := by simp [hs]
  go_enter Tryz.func78, Tryz.ntmps78
  go_wp2_with fail
  have R := Out.start0 w
  refine (wordsOf_any s _ hs).mono ?_
  rintro _ w1 ⟨rfl, hb⟩
  replace R := R.keep hb
  clear hb
  go_wp2_with fail
  refine (number_any _ _ _ _ _ (sw64 s 0) (sw64 s 1) (sw64 s 2) (sw64 s 3)).mono ?_
  rintro _ w2 ⟨rfl, hb⟩
  replace R := R.keep hb
  clear hb
  rw [show numberF (sw s 0 8) (sw s 1 8) (sw s 2 8) (sw s 3 8) = ofF s from rfl]
  generalize hz : ofF s = z
  have HZ := hide hz
  clear hz
  obtain ⟨old, ge, rs, rf, r0, r1, r2, r3, r4⟩ := R
  have O := hide old
  clear old
  go_wp2
  refine bodyPost_ret (v := .tuple #[z.v, .int .i64 0]) (by simp [results, Tryz.results78, go_sem, r0, r1, r2, r3, r4]) rfl ⟨by rw [HZ.out], ?_⟩
  exact five O.out ge

set_option maxHeartbeats 400000 in
theorem of_no (s : ByteArray) (w : World) (hs : s.size ≠ 32) :
    Calls Tryz.prog 78 #[.string s] w fun r w' => r = .returned (.tuple #[zeroE.v, .int .i64 2]) ∧ Below w.heap.size w w' := by
  have n0 : ((s.size : Int) != 32) = true := by simp; omega
  go_enter Tryz.func78, Tryz.ntmps78
  go_wp2
  exact bodyPost_ret (v := .tuple #[zeroE.v, .int .i64 2]) (by simp [results, Tryz.results78, go_sem, zeroE]) rfl ⟨rfl, (Below.refl _ _).alloc (Nat.le_refl _) _⟩

end Go.Proofs.YtmhfmhmpoobmlaaGreatDoor

/- Numbers of 16 digits of 16 bits, as the document's answer has them: wide, Less, minus. -/
namespace Go.Proofs.YtmhfmhmpoobmlaaGreatDoor
open Go.RowKit

/-- The number of the first n digits. -/
def S (f : Nat → Int) : Nat → Int
  | 0 => 0
  | n + 1 => S f n + f n * 65536 ^ n

theorem p16 (n : Nat) : (0 : Int) < 65536 ^ n := Int.pow_pos (by decide)
theorem p16s (n : Nat) : (65536 : Int) ^ (n + 1) = 65536 * 65536 ^ n := by rw [Int.pow_succ, Int.mul_comm]

/-- Each of the first n digits is one. -/
def Dig (f : Nat → Int) (n : Nat) : Prop := ∀ i, i < n → 0 ≤ f i ∧ f i < 65536

theorem Dig.le {f : Nat → Int} {n m : Nat} (h : Dig f n) (hm : m ≤ n) : Dig f m := fun i hi => h i (by omega)

theorem S_bd {f : Nat → Int} : ∀ {n : Nat}, Dig f n → 0 ≤ S f n ∧ S f n < 65536 ^ n
  | 0, _ => by simp [S]
  | n + 1, h => by
    have ih := S_bd (n := n) (h.le (by omega))
    have hd := h n (by omega)
    have hp := p16 n
    have h1 : f n * 65536 ^ n ≤ 65535 * 65536 ^ n := Int.mul_le_mul_of_nonneg_right (by omega) (by omega)
    have h2 : 0 ≤ f n * 65536 ^ n := Int.mul_nonneg hd.1 (by omega)
    rw [p16s]
    simp only [S]
    omega

theorem S_congr {f g : Nat → Int} : ∀ {n : Nat}, (∀ i, i < n → f i = g i) → S f n = S g n
  | 0, _ => rfl
  | n + 1, h => by
    simp only [S]
    rw [S_congr (n := n) fun i hi => h i (by omega), h n (by omega)]

end Go.Proofs.YtmhfmhmpoobmlaaGreatDoor

/- The arithmetic of the document's reduce: carries, and what stands at 2^256 or above comes round by 38. -/
namespace Go.Proofs.YtmhfmhmpoobmlaaGreatDoor
open Go.RowKit

/-- The digits of a number. -/
def d16 (N : Int) : Nat → Int := fun i => N / 65536 ^ i % 65536

theorem S_inj {f g : Nat → Int} : ∀ {n : Nat}, Dig f n → Dig g n → S f n = S g n → ∀ i, i < n → f i = g i
  | 0, _, _, _, i, hi => by omega
  | n + 1, hf, hg, h, i, hi => by
    have bf := S_bd (hf.le (m := n) (by omega))
    have bg := S_bd (hg.le (m := n) (by omega))
    have hp := p16 n
    simp only [S] at h
    have hn : f n = g n := by
      apply Classical.byContradiction
      intro hne
      have : f n < g n ∨ g n < f n := by omega
      rcases this with hl | hl
      · have : (g n - f n) * 65536 ^ n ≥ 1 * 65536 ^ n := Int.mul_le_mul_of_nonneg_right (by omega) (by omega)
        rw [Int.sub_mul] at this
        omega
      · have : (f n - g n) * 65536 ^ n ≥ 1 * 65536 ^ n := Int.mul_le_mul_of_nonneg_right (by omega) (by omega)
        rw [Int.sub_mul] at this
        omega
    by_cases hin : i = n
    · rw [hin]; exact hn
    · refine S_inj (n := n) (hf.le (by omega)) (hg.le (by omega)) ?_ i (by omega)
      rw [hn] at h
      omega

theorem d16_dig (N : Int) (n : Nat) : Dig (d16 N) n := fun i _ => by unfold d16; omega

theorem d16_S (N : Int) (h0 : 0 ≤ N) : ∀ n, S (d16 N) n = N % 65536 ^ n
  | 0 => by simp [S]
  | n + 1 => by
    simp only [S]
    rw [d16_S N h0 n, d16, Int.pow_succ]
    have hp := p16 n
    generalize (65536 : Int) ^ n = X at *
    have a := Int.mul_ediv_add_emod N X
    have b := Int.mul_ediv_add_emod (N / X) 65536
    have r0 := Int.emod_nonneg N (by omega : X ≠ 0)
    have r1 := Int.emod_lt_of_pos N hp
    have hN : N = (N % X + N / X % 65536 * X) + X * 65536 * (N / X / 65536) := by
      have e : X * (N / X) = X * (65536 * (N / X / 65536) + N / X % 65536) := by rw [b]
      rw [Int.mul_add] at e
      rw [Int.mul_comm (N / X % 65536) X, Int.mul_assoc]
      omega
    have q : N / X % 65536 * X ≤ 65535 * X := Int.mul_le_mul_of_nonneg_right (by omega) (by omega)
    have q0 : 0 ≤ N / X % 65536 * X := Int.mul_nonneg (by omega) (by omega)
    have hM : N % (X * 65536) = (N % X + N / X % 65536 * X + X * 65536 * (N / X / 65536)) % (X * 65536) := by rw [← hN]
    rw [hM, Int.add_mul_emod_self_left]
    exact (Int.emod_eq_of_lt (by omega) (by omega)).symm

end Go.Proofs.YtmhfmhmpoobmlaaGreatDoor

/- The contracts of text, words, Bytes: the 32 bytes of a number, the lowest first. -/
namespace Go.Proofs.YtmhfmhmpoobmlaaGreatDoor
open Go.RowKit

/-- Bytes as a string. -/
def bs (ns : List Int) : ByteArray := ⟨(ns.map fun n => UInt8.ofNat n.toNat).toArray⟩

theorem bs_fold (ns : List Int) : ∀ s : ByteArray, ns.foldl (fun r n => r.push (UInt8.ofNat n.toNat)) s = ⟨s.data ++ (ns.map fun n => UInt8.ofNat n.toNat).toArray⟩ := by
  induction ns with
  | nil => intro s; simp
  | cons n ns ih =>
    intro s
    rw [List.foldl_cons, ih]
    simp [ByteArray.push]

theorem conv_bytes (W : World) (g : Nat) (T : TypeId) (ns : List Int) (l cap : Nat) (fr : Nat × Nat) (hg : W.heap[g]? = some (.cells (ns.map (Value.int .u8)).toArray T fr)) (hl : ns.length = l) :
    (convert 32 9 (.slice (some ⟨g, 0, none⟩) l cap)).run Tryz.prog W = .ok (.string (bs ns)) W := by
  subst hl
  rw [run_convert_bytes_string W 32 9 5 (some ⟨g, 0, none⟩) ns.length cap Tryz.underlying32 Tryz.underlying5 Tryz.underlying9]
  have h := run_loadCells_list (P := Tryz.prog) W ⟨g, 0, none⟩ (ns.map (Value.int .u8)) (fun j v hv => by
    have hadd : (⟨g, 0, none⟩ : Addr).add j = ⟨g, j, none⟩ := by unfold Addr.add; split <;> simp_all
    rw [hadd, cell_of_row W g j _ T fr hg]
    simpa using hv)
  rw [List.length_map] at h
  have he : ByteArray.empty.data = #[] := rfl
  rw [run_bytesToString W _ ns.length cap ns h, bs_fold, he]
  simp [bs]

/-- The eight bytes of a word. -/
def digs (a : Int) : List Int := [a % 256, a / 256 % 256, a / 65536 % 256, a / 16777216 % 256, a / 4294967296 % 256, a / 1099511627776 % 256, a / 281474976710656 % 256, a / 72057594037927936 % 256]

/-- The 32 bytes of a number. -/
def lebytes (n : Int) : ByteArray := bs (digs (n % 18446744073709551616) ++ digs (n / 18446744073709551616 % 18446744073709551616) ++ digs (n / 340282366920938463463374607431768211456 % 18446744073709551616) ++ digs (n / 6277101735386680763835789423207666416102355444464034512896 % 18446744073709551616))

set_option maxRecDepth 100000 in
set_option maxHeartbeats 4000000 in
theorem text_any (a b c d : Int) (w : World) :
    Calls Tryz.prog 122 #[.agg #[.int .u64 a, .int .u64 b, .int .u64 c, .int .u64 d]] w fun r w' => r = .returned (.string (bs (digs a ++ digs b ++ digs c ++ digs d))) ∧ Below w.heap.size w w' := by
  go_enter Tryz.func122, Tryz.ntmps122
  go_wp2
  refine wp_loop_rounds 33 ?_
  iterate 33 (rw [rounds_succ]; go_wp2)
  have hcv : (convert 32 9 (.slice (some ⟨w.heap.size + 1, 0, none⟩) 32 32)).run Tryz.prog ((w.alloc (.cells #[.int .u64 a, .int .u64 b, .int .u64 c, .int .u64 d] 147)).alloc (.cells #[.int .u8 (a % 256), .int .u8 (a / 256 % 256), .int .u8 (a / 65536 % 256), .int .u8 (a / 16777216 % 256), .int .u8 (a / 4294967296 % 256), .int .u8 (a / 1099511627776 % 256), .int .u8 (a / 281474976710656 % 256), .int .u8 (a / 72057594037927936 % 256), .int .u8 (b % 256), .int .u8 (b / 256 % 256), .int .u8 (b / 65536 % 256), .int .u8 (b / 16777216 % 256), .int .u8 (b / 4294967296 % 256), .int .u8 (b / 1099511627776 % 256), .int .u8 (b / 281474976710656 % 256), .int .u8 (b / 72057594037927936 % 256), .int .u8 (c % 256), .int .u8 (c / 256 % 256), .int .u8 (c / 65536 % 256), .int .u8 (c / 16777216 % 256), .int .u8 (c / 4294967296 % 256), .int .u8 (c / 1099511627776 % 256), .int .u8 (c / 281474976710656 % 256), .int .u8 (c / 72057594037927936 % 256), .int .u8 (d % 256), .int .u8 (d / 256 % 256), .int .u8 (d / 65536 % 256), .int .u8 (d / 16777216 % 256), .int .u8 (d / 4294967296 % 256), .int .u8 (d / 1099511627776 % 256), .int .u8 (d / 281474976710656 % 256), .int .u8 (d / 72057594037927936 % 256)] 89)) = .ok (.string (bs (digs a ++ digs b ++ digs c ++ digs d))) _ := conv_bytes _ (w.heap.size + 1) 89 (digs a ++ digs b ++ digs c ++ digs d) 32 32 (0, 0) (heap_alloc2_new w _ _) rfl
  rw [hcv]
  clear hcv
  generalize hB : bs (digs a ++ digs b ++ digs c ++ digs d) = B
  have HB := hide hB
  clear hB
  go_wp2
  go_ret
  exact ⟨by rw [HB.out]; rfl, ((Below.refl _ _).alloc (Nat.le_refl _) _).alloc (by simp) _⟩

theorem wordsR0 {y : E5} (h : y.Low) : bits BinOp.or IntKind.u64 y.a (IntKind.u64.wrap (y.b * 2251799813685248)) = y.n % 18446744073709551616 := by
  obtain ⟨a0, a1, b0, b1, c0, c1, d0, d1, e0, e1⟩ := h
  rw [IntKind.wrap_u64, or_join' 51 2251799813685248 (by decide) ⟨by omega, by omega⟩ ⟨by omega, by omega⟩ (by omega) (by omega)]
  simp only [E5.n]
  omega
theorem wordsR1 {y : E5} (h : y.Low) : bits BinOp.or IntKind.u64 (y.b / 8192) (IntKind.u64.wrap (y.c * 274877906944)) = y.n / 18446744073709551616 % 18446744073709551616 := by
  obtain ⟨a0, a1, b0, b1, c0, c1, d0, d1, e0, e1⟩ := h
  rw [IntKind.wrap_u64, or_join' 38 274877906944 (by decide) ⟨by omega, by omega⟩ ⟨by omega, by omega⟩ (by omega) (by omega)]
  simp only [E5.n]
  omega
theorem wordsR2 {y : E5} (h : y.Low) : bits BinOp.or IntKind.u64 (y.c / 67108864) (IntKind.u64.wrap (y.d * 33554432)) = y.n / 340282366920938463463374607431768211456 % 18446744073709551616 := by
  obtain ⟨a0, a1, b0, b1, c0, c1, d0, d1, e0, e1⟩ := h
  rw [IntKind.wrap_u64, or_join' 25 33554432 (by decide) ⟨by omega, by omega⟩ ⟨by omega, by omega⟩ (by omega) (by omega)]
  simp only [E5.n]
  omega
theorem wordsR3 {y : E5} (h : y.Low) : bits BinOp.or IntKind.u64 (y.d / 549755813888) (IntKind.u64.wrap (y.e * 4096)) = y.n / 6277101735386680763835789423207666416102355444464034512896 % 18446744073709551616 := by
  obtain ⟨a0, a1, b0, b1, c0, c1, d0, d1, e0, e1⟩ := h
  rw [IntKind.wrap_u64, or_join' 12 4096 (by decide) ⟨by omega, by omega⟩ ⟨by omega, by omega⟩ (by omega) (by omega)]
  simp only [E5.n]
  omega

theorem set4 {B g : Nat} {w w1 : World} (h : Below B w w1) (hg : B ≤ g) {u0 u1 u2 u3 : Value} :
    Below B w ((((w1.setCell ⟨g, 0, none⟩ u0).setCell ⟨g, 1, none⟩ u1).setCell ⟨g, 2, none⟩ u2).setCell ⟨g, 3, none⟩ u3) :=
  (((h.setCell (p := ⟨g, 0, none⟩) hg u0).setCell (p := ⟨g, 1, none⟩) hg u1).setCell (p := ⟨g, 2, none⟩) hg u2).setCell (p := ⟨g, 3, none⟩) hg u3

abbrev w4 (n : Int) : Value := .agg #[.int .u64 (n % 18446744073709551616), .int .u64 (n / 18446744073709551616 % 18446744073709551616), .int .u64 (n / 340282366920938463463374607431768211456 % 18446744073709551616), .int .u64 (n / 6277101735386680763835789423207666416102355444464034512896 % 18446744073709551616)]

set_option maxRecDepth 100000 in
set_option maxHeartbeats 1000000 in
theorem words_any (x : E5) (w : World) (hx : x.Ok) :
    Calls Tryz.prog 121 #[x.v] w fun r w' => r = .returned (w4 (x.n % Pm)) ∧ Below w.heap.size w w' := by
  go_enter Tryz.func121, Tryz.ntmps121
  go_wp2_with fail
  refine (least_any x _ hx).mono ?_
  rintro _ w1 ⟨rfl, hb⟩
  have HN := hide (leastF_n hx)
  have hl := leastF_low x
  have e0 := wordsR0 hl
  have e1 := wordsR1 hl
  have e2 := wordsR2 hl
  have e3 := wordsR3 hl
  rw [leastF_n hx] at e0 e1 e2 e3
  generalize leastF x = y at *
  have H3 := hide (below2 hb)
  obtain ⟨hc, hf⟩ := bcell hb
  have hs : w.heap.size + 1 < w1.heap.size := by have := hb.size; simp at this; omega
  clear hb hl
  go_wp2
  refine bodyPost_ret (v := w4 (x.n % Pm)) (by simp [results, Tryz.results121, go_sem, hc, hs]) rfl ⟨rfl, ?_⟩
  exact (set4 (B := w.heap.size) (g := w.heap.size + 1) H3.out (by omega)).alloc (by simp; omega) _

set_option maxRecDepth 100000 in
set_option maxHeartbeats 1000000 in
theorem bytes_any (x : E5) (w : World) (hx : x.Ok) :
    Calls Tryz.prog 65 #[x.v] w fun r w' => r = .returned (.string (lebytes (x.n % Pm))) ∧ Below w.heap.size w w' := by
  go_enter Tryz.func65, Tryz.ntmps65
  go_wp2_with fail
  refine (words_any x _ hx).mono ?_
  rintro _ w1 ⟨rfl, hb⟩
  have H3 := below1 hb
  clear hb
  go_wp2_with fail
  refine (text_any _ _ _ _ _).mono ?_
  rintro _ w2 ⟨rfl, hb⟩
  have H4 := H3.trans (hb.mono H3.size)
  clear hb H3
  rw [show bs (digs (x.n % Pm % 18446744073709551616) ++ digs (x.n % Pm / 18446744073709551616 % 18446744073709551616) ++ digs (x.n % Pm / 340282366920938463463374607431768211456 % 18446744073709551616) ++ digs (x.n % Pm / 6277101735386680763835789423207666416102355444464034512896 % 18446744073709551616)) = lebytes (x.n % Pm) from rfl]
  go_wp2
  go_ret
  exact ⟨rfl, H4⟩

end Go.Proofs.YtmhfmhmpoobmlaaGreatDoor

/- The contracts of the document's Bytes and Small. -/
namespace Go.Proofs.YtmhfmhmpoobmlaaGreatDoor
open Go.RowKit

/-- Byte i of the digits. -/
def by16 (f : Nat → Int) (i : Nat) : Int := f (i / 2) / 256 ^ (i % 2) % 256
/-- The first k bytes, then none. -/
def rb (f : Nat → Int) (k : Nat) : List Int := (List.range 32).map fun i => if i < k then by16 f i else 0

/-- Block g holds these bytes. -/
def Byt (W : World) (g : Nat) (l : List Int) : Prop := W.heap[g]? = some (.cells (l.map (Value.int .u8)).toArray 5 (0, 0))

theorem Byt.cell {W : World} {g : Nat} {l : List Int} (h : Byt W g l) {i : Nat} (hi : i < l.length) : ∃ v, W.cell? ⟨g, i, none⟩ = some v := by
  rw [cell_of_row W g i _ 5 (0, 0) h]
  simp [hi]
theorem Byt.free {W : World} {g : Nat} {l : List Int} (h : Byt W g l) (i : Nat) : W.frozen? ⟨g, i, none⟩ = false := frozen_of_row W g i _ 5 h
theorem Byt.set {W : World} {g : Nat} {l : List Int} (h : Byt W g l) (k : Nat) (v : Int) : Byt (W.setCell ⟨g, k, none⟩ (.int .u8 v)) g (l.set k v) := by
  unfold Byt
  rw [heap_setCell_same W g k _ 5 _ h]
  simp [List.map_set]

theorem rb_len (f : Nat → Int) (k : Nat) : (rb f k).length = 32 := by simp [rb]
theorem rb_set (f : Nat → Int) (k : Nat) : (rb f k).set k (by16 f k) = rb f (k + 1) := by
  apply List.ext_getElem?
  intro i
  by_cases hi : i < 32
  · by_cases h : k = i
    · subst h
      rw [List.getElem?_set_self (by rw [rb_len]; exact hi)]
      simp [rb, hi]
    · rw [List.getElem?_set_ne h]
      simp only [rb, List.getElem?_map, List.getElem?_range hi, Option.map_some]
      congr 1
      by_cases h2 : i < k
      · rw [if_pos h2, if_pos (by omega)]
      · rw [if_neg h2, if_neg (by omega)]
  · rw [List.getElem?_eq_none (by simp [rb]; omega), List.getElem?_eq_none (by simp [rb]; omega)]

set_option maxRecDepth 100000 in
set_option maxHeartbeats 8000000 in
theorem rbytes_any (f : Nat → Int) (w : World) (hf : Dig f 16) :
    Calls Tryz.prog 16 #[.agg (arr 16 f)] w fun r w' => r = .returned (.string (bs (rb f 32))) ∧ Below w.heap.size w w' := by
  have hmk : ∀ w, (Instr.makeSlice 32 (.int .i64 32) (.int .i64 32)).run Tryz.prog w = .ok (.slice (some ⟨w.heap.size, 0, none⟩) 32 32) (w.alloc (.cells #[Value.int IntKind.u8 0, Value.int IntKind.u8 0, Value.int IntKind.u8 0, Value.int IntKind.u8 0, Value.int IntKind.u8 0, Value.int IntKind.u8 0, Value.int IntKind.u8 0, Value.int IntKind.u8 0, Value.int IntKind.u8 0, Value.int IntKind.u8 0, Value.int IntKind.u8 0, Value.int IntKind.u8 0, Value.int IntKind.u8 0, Value.int IntKind.u8 0, Value.int IntKind.u8 0, Value.int IntKind.u8 0, Value.int IntKind.u8 0, Value.int IntKind.u8 0, Value.int IntKind.u8 0, Value.int IntKind.u8 0, Value.int IntKind.u8 0, Value.int IntKind.u8 0, Value.int IntKind.u8 0, Value.int IntKind.u8 0, Value.int IntKind.u8 0, Value.int IntKind.u8 0, Value.int IntKind.u8 0, Value.int IntKind.u8 0, Value.int IntKind.u8 0, Value.int IntKind.u8 0, Value.int IntKind.u8 0, Value.int IntKind.u8 0] 5)) := fun _ => by kernel_rfl
  go_enter Tryz.func16, Tryz.ntmps16
  go_wp2
  clear hmk
  have R1 : Row ((w.alloc (.cells (arr 16 f) 36)).alloc (.cells #[Value.int IntKind.u8 0, Value.int IntKind.u8 0, Value.int IntKind.u8 0, Value.int IntKind.u8 0, Value.int IntKind.u8 0, Value.int IntKind.u8 0, Value.int IntKind.u8 0, Value.int IntKind.u8 0, Value.int IntKind.u8 0, Value.int IntKind.u8 0, Value.int IntKind.u8 0, Value.int IntKind.u8 0, Value.int IntKind.u8 0, Value.int IntKind.u8 0, Value.int IntKind.u8 0, Value.int IntKind.u8 0, Value.int IntKind.u8 0, Value.int IntKind.u8 0, Value.int IntKind.u8 0, Value.int IntKind.u8 0, Value.int IntKind.u8 0, Value.int IntKind.u8 0, Value.int IntKind.u8 0, Value.int IntKind.u8 0, Value.int IntKind.u8 0, Value.int IntKind.u8 0, Value.int IntKind.u8 0, Value.int IntKind.u8 0, Value.int IntKind.u8 0, Value.int IntKind.u8 0, Value.int IntKind.u8 0, Value.int IntKind.u8 0] 5)) w.heap.size 36 16 f := (Row.new w 36 16 f).alloc _
  have R2 : Byt ((w.alloc (.cells (arr 16 f) 36)).alloc (.cells #[Value.int IntKind.u8 0, Value.int IntKind.u8 0, Value.int IntKind.u8 0, Value.int IntKind.u8 0, Value.int IntKind.u8 0, Value.int IntKind.u8 0, Value.int IntKind.u8 0, Value.int IntKind.u8 0, Value.int IntKind.u8 0, Value.int IntKind.u8 0, Value.int IntKind.u8 0, Value.int IntKind.u8 0, Value.int IntKind.u8 0, Value.int IntKind.u8 0, Value.int IntKind.u8 0, Value.int IntKind.u8 0, Value.int IntKind.u8 0, Value.int IntKind.u8 0, Value.int IntKind.u8 0, Value.int IntKind.u8 0, Value.int IntKind.u8 0, Value.int IntKind.u8 0, Value.int IntKind.u8 0, Value.int IntKind.u8 0, Value.int IntKind.u8 0, Value.int IntKind.u8 0, Value.int IntKind.u8 0, Value.int IntKind.u8 0, Value.int IntKind.u8 0, Value.int IntKind.u8 0, Value.int IntKind.u8 0, Value.int IntKind.u8 0] 5)) (w.heap.size + 1) (rb f 0) := heap_alloc2_new w _ _
  have O : Below w.heap.size w ((w.alloc (.cells (arr 16 f) 36)).alloc (.cells #[Value.int IntKind.u8 0, Value.int IntKind.u8 0, Value.int IntKind.u8 0, Value.int IntKind.u8 0, Value.int IntKind.u8 0, Value.int IntKind.u8 0, Value.int IntKind.u8 0, Value.int IntKind.u8 0, Value.int IntKind.u8 0, Value.int IntKind.u8 0, Value.int IntKind.u8 0, Value.int IntKind.u8 0, Value.int IntKind.u8 0, Value.int IntKind.u8 0, Value.int IntKind.u8 0, Value.int IntKind.u8 0, Value.int IntKind.u8 0, Value.int IntKind.u8 0, Value.int IntKind.u8 0, Value.int IntKind.u8 0, Value.int IntKind.u8 0, Value.int IntKind.u8 0, Value.int IntKind.u8 0, Value.int IntKind.u8 0, Value.int IntKind.u8 0, Value.int IntKind.u8 0, Value.int IntKind.u8 0, Value.int IntKind.u8 0, Value.int IntKind.u8 0, Value.int IntKind.u8 0, Value.int IntKind.u8 0, Value.int IntKind.u8 0] 5)) := ((Below.refl _ _).alloc (Nat.le_refl _) _).alloc (by simp) _
  generalize (w.alloc (.cells (arr 16 f) 36)).alloc (.cells #[Value.int IntKind.u8 0, Value.int IntKind.u8 0, Value.int IntKind.u8 0, Value.int IntKind.u8 0, Value.int IntKind.u8 0, Value.int IntKind.u8 0, Value.int IntKind.u8 0, Value.int IntKind.u8 0, Value.int IntKind.u8 0, Value.int IntKind.u8 0, Value.int IntKind.u8 0, Value.int IntKind.u8 0, Value.int IntKind.u8 0, Value.int IntKind.u8 0, Value.int IntKind.u8 0, Value.int IntKind.u8 0, Value.int IntKind.u8 0, Value.int IntKind.u8 0, Value.int IntKind.u8 0, Value.int IntKind.u8 0, Value.int IntKind.u8 0, Value.int IntKind.u8 0, Value.int IntKind.u8 0, Value.int IntKind.u8 0, Value.int IntKind.u8 0, Value.int IntKind.u8 0, Value.int IntKind.u8 0, Value.int IntKind.u8 0, Value.int IntKind.u8 0, Value.int IntKind.u8 0, Value.int IntKind.u8 0, Value.int IntKind.u8 0] 5) = W at R1 R2 O ⊢
  go_loopw [4] (fun i wr => ∃ k : Nat, k ≤ 32 ∧ i = .int .i64 k ∧ Row wr w.heap.size 36 16 f ∧ Byt wr (w.heap.size + 1) (rb f k) ∧ Below w.heap.size w wr) (fun i _ => 32 - (intOf i).toNat)
  case atStart => exact ⟨0, by omega, rfl, R1, R2, O⟩
  case round =>
    clear R1 R2 O
    obtain ⟨k, hk, rfl, R1, R2, O⟩ := hrel
    by_cases hlt : k < 32
    · have hc : k = 0 ∨ k = 1 ∨ k = 2 ∨ k = 3 ∨ k = 4 ∨ k = 5 ∨ k = 6 ∨ k = 7 ∨ k = 8 ∨ k = 9 ∨ k = 10 ∨ k = 11 ∨ k = 12 ∨ k = 13 ∨ k = 14 ∨ k = 15 ∨ k = 16 ∨ k = 17 ∨ k = 18 ∨ k = 19 ∨ k = 20 ∨ k = 21 ∨ k = 22 ∨ k = 23 ∨ k = 24 ∨ k = 25 ∨ k = 26 ∨ k = 27 ∨ k = 28 ∨ k = 29 ∨ k = 30 ∨ k = 31 := by omega
      clear hlt hk
      rcases hc with rfl | rfl | rfl | rfl | rfl | rfl | rfl | rfl | rfl | rfl | rfl | rfl | rfl | rfl | rfl | rfl | rfl | rfl | rfl | rfl | rfl | rfl | rfl | rfl | rfl | rfl | rfl | rfl | rfl | rfl | rfl | rfl
      · have c := R1.cell (i := 0) (by omega)
        obtain ⟨a0, a1⟩ := hf 0 (by omega)
        obtain ⟨v, d⟩ := R2.cell (i := 0) (by rw [rb_len]; omega)
        have e := R2.free 0
        have HV := hide (show by16 f 0 = f 0 % 256 by simp [by16])
        have RR := hide (R2.set 0 (by16 f 0))
        have R1' := hide (R1.other (a := ⟨w.heap.size + 1, 0, none⟩) (by simp) (.int .u8 (by16 f 0)))
        have O' := hide (O.setCell (p := ⟨w.heap.size + 1, 0, none⟩) (by simp) (.int .u8 (by16 f 0)))
        clear R1 R2 O
        go_wp2
        rw [← HV.out]
        first | exact ⟨⟨1, by omega, rfl, R1'.out, by rw [← rb_set]; exact RR.out, O'.out⟩, by simp [intOf]⟩ | (go_roundw; (case rel => exact ⟨1, by omega, rfl, R1'.out, by rw [← rb_set]; exact RR.out, O'.out⟩); (case measure => simp [intOf]))
      · have c := R1.cell (i := 0) (by omega)
        obtain ⟨a0, a1⟩ := hf 0 (by omega)
        obtain ⟨v, d⟩ := R2.cell (i := 1) (by rw [rb_len]; omega)
        have e := R2.free 1
        have HV := hide (show by16 f 1 = f 0 / 256 by rw [show by16 f 1 = f 0 / 256 % 256 by simp [by16]]; omega)
        have RR := hide (R2.set 1 (by16 f 1))
        have R1' := hide (R1.other (a := ⟨w.heap.size + 1, 1, none⟩) (by simp) (.int .u8 (by16 f 1)))
        have O' := hide (O.setCell (p := ⟨w.heap.size + 1, 1, none⟩) (by simp) (.int .u8 (by16 f 1)))
        clear R1 R2 O
        go_wp2
        rw [← HV.out]
        first | exact ⟨⟨2, by omega, rfl, R1'.out, by rw [← rb_set]; exact RR.out, O'.out⟩, by simp [intOf]⟩ | (go_roundw; (case rel => exact ⟨2, by omega, rfl, R1'.out, by rw [← rb_set]; exact RR.out, O'.out⟩); (case measure => simp [intOf]))
      · have c := R1.cell (i := 1) (by omega)
        obtain ⟨a0, a1⟩ := hf 1 (by omega)
        obtain ⟨v, d⟩ := R2.cell (i := 2) (by rw [rb_len]; omega)
        have e := R2.free 2
        have HV := hide (show by16 f 2 = f 1 % 256 by simp [by16])
        have RR := hide (R2.set 2 (by16 f 2))
        have R1' := hide (R1.other (a := ⟨w.heap.size + 1, 2, none⟩) (by simp) (.int .u8 (by16 f 2)))
        have O' := hide (O.setCell (p := ⟨w.heap.size + 1, 2, none⟩) (by simp) (.int .u8 (by16 f 2)))
        clear R1 R2 O
        go_wp2
        rw [← HV.out]
        first | exact ⟨⟨3, by omega, rfl, R1'.out, by rw [← rb_set]; exact RR.out, O'.out⟩, by simp [intOf]⟩ | (go_roundw; (case rel => exact ⟨3, by omega, rfl, R1'.out, by rw [← rb_set]; exact RR.out, O'.out⟩); (case measure => simp [intOf]))
      · have c := R1.cell (i := 1) (by omega)
        obtain ⟨a0, a1⟩ := hf 1 (by omega)
        obtain ⟨v, d⟩ := R2.cell (i := 3) (by rw [rb_len]; omega)
        have e := R2.free 3
        have HV := hide (show by16 f 3 = f 1 / 256 by rw [show by16 f 3 = f 1 / 256 % 256 by simp [by16]]; omega)
        have RR := hide (R2.set 3 (by16 f 3))
        have R1' := hide (R1.other (a := ⟨w.heap.size + 1, 3, none⟩) (by simp) (.int .u8 (by16 f 3)))
        have O' := hide (O.setCell (p := ⟨w.heap.size + 1, 3, none⟩) (by simp) (.int .u8 (by16 f 3)))
        clear R1 R2 O
        go_wp2
        rw [← HV.out]
        first | exact ⟨⟨4, by omega, rfl, R1'.out, by rw [← rb_set]; exact RR.out, O'.out⟩, by simp [intOf]⟩ | (go_roundw; (case rel => exact ⟨4, by omega, rfl, R1'.out, by rw [← rb_set]; exact RR.out, O'.out⟩); (case measure => simp [intOf]))
      · have c := R1.cell (i := 2) (by omega)
        obtain ⟨a0, a1⟩ := hf 2 (by omega)
        obtain ⟨v, d⟩ := R2.cell (i := 4) (by rw [rb_len]; omega)
        have e := R2.free 4
        have HV := hide (show by16 f 4 = f 2 % 256 by simp [by16])
        have RR := hide (R2.set 4 (by16 f 4))
        have R1' := hide (R1.other (a := ⟨w.heap.size + 1, 4, none⟩) (by simp) (.int .u8 (by16 f 4)))
        have O' := hide (O.setCell (p := ⟨w.heap.size + 1, 4, none⟩) (by simp) (.int .u8 (by16 f 4)))
        clear R1 R2 O
        go_wp2
        rw [← HV.out]
        first | exact ⟨⟨5, by omega, rfl, R1'.out, by rw [← rb_set]; exact RR.out, O'.out⟩, by simp [intOf]⟩ | (go_roundw; (case rel => exact ⟨5, by omega, rfl, R1'.out, by rw [← rb_set]; exact RR.out, O'.out⟩); (case measure => simp [intOf]))
      · have c := R1.cell (i := 2) (by omega)
        obtain ⟨a0, a1⟩ := hf 2 (by omega)
        obtain ⟨v, d⟩ := R2.cell (i := 5) (by rw [rb_len]; omega)
        have e := R2.free 5
        have HV := hide (show by16 f 5 = f 2 / 256 by rw [show by16 f 5 = f 2 / 256 % 256 by simp [by16]]; omega)
        have RR := hide (R2.set 5 (by16 f 5))
        have R1' := hide (R1.other (a := ⟨w.heap.size + 1, 5, none⟩) (by simp) (.int .u8 (by16 f 5)))
        have O' := hide (O.setCell (p := ⟨w.heap.size + 1, 5, none⟩) (by simp) (.int .u8 (by16 f 5)))
        clear R1 R2 O
        go_wp2
        rw [← HV.out]
        first | exact ⟨⟨6, by omega, rfl, R1'.out, by rw [← rb_set]; exact RR.out, O'.out⟩, by simp [intOf]⟩ | (go_roundw; (case rel => exact ⟨6, by omega, rfl, R1'.out, by rw [← rb_set]; exact RR.out, O'.out⟩); (case measure => simp [intOf]))
      · have c := R1.cell (i := 3) (by omega)
        obtain ⟨a0, a1⟩ := hf 3 (by omega)
        obtain ⟨v, d⟩ := R2.cell (i := 6) (by rw [rb_len]; omega)
        have e := R2.free 6
        have HV := hide (show by16 f 6 = f 3 % 256 by simp [by16])
        have RR := hide (R2.set 6 (by16 f 6))
        have R1' := hide (R1.other (a := ⟨w.heap.size + 1, 6, none⟩) (by simp) (.int .u8 (by16 f 6)))
        have O' := hide (O.setCell (p := ⟨w.heap.size + 1, 6, none⟩) (by simp) (.int .u8 (by16 f 6)))
        clear R1 R2 O
        go_wp2
        rw [← HV.out]
        first | exact ⟨⟨7, by omega, rfl, R1'.out, by rw [← rb_set]; exact RR.out, O'.out⟩, by simp [intOf]⟩ | (go_roundw; (case rel => exact ⟨7, by omega, rfl, R1'.out, by rw [← rb_set]; exact RR.out, O'.out⟩); (case measure => simp [intOf]))
      · have c := R1.cell (i := 3) (by omega)
        obtain ⟨a0, a1⟩ := hf 3 (by omega)
        obtain ⟨v, d⟩ := R2.cell (i := 7) (by rw [rb_len]; omega)
        have e := R2.free 7
        have HV := hide (show by16 f 7 = f 3 / 256 by rw [show by16 f 7 = f 3 / 256 % 256 by simp [by16]]; omega)
        have RR := hide (R2.set 7 (by16 f 7))
        have R1' := hide (R1.other (a := ⟨w.heap.size + 1, 7, none⟩) (by simp) (.int .u8 (by16 f 7)))
        have O' := hide (O.setCell (p := ⟨w.heap.size + 1, 7, none⟩) (by simp) (.int .u8 (by16 f 7)))
        clear R1 R2 O
        go_wp2
        rw [← HV.out]
        first | exact ⟨⟨8, by omega, rfl, R1'.out, by rw [← rb_set]; exact RR.out, O'.out⟩, by simp [intOf]⟩ | (go_roundw; (case rel => exact ⟨8, by omega, rfl, R1'.out, by rw [← rb_set]; exact RR.out, O'.out⟩); (case measure => simp [intOf]))
      · have c := R1.cell (i := 4) (by omega)
        obtain ⟨a0, a1⟩ := hf 4 (by omega)
        obtain ⟨v, d⟩ := R2.cell (i := 8) (by rw [rb_len]; omega)
        have e := R2.free 8
        have HV := hide (show by16 f 8 = f 4 % 256 by simp [by16])
        have RR := hide (R2.set 8 (by16 f 8))
        have R1' := hide (R1.other (a := ⟨w.heap.size + 1, 8, none⟩) (by simp) (.int .u8 (by16 f 8)))
        have O' := hide (O.setCell (p := ⟨w.heap.size + 1, 8, none⟩) (by simp) (.int .u8 (by16 f 8)))
        clear R1 R2 O
        go_wp2
        rw [← HV.out]
        first | exact ⟨⟨9, by omega, rfl, R1'.out, by rw [← rb_set]; exact RR.out, O'.out⟩, by simp [intOf]⟩ | (go_roundw; (case rel => exact ⟨9, by omega, rfl, R1'.out, by rw [← rb_set]; exact RR.out, O'.out⟩); (case measure => simp [intOf]))
      · have c := R1.cell (i := 4) (by omega)
        obtain ⟨a0, a1⟩ := hf 4 (by omega)
        obtain ⟨v, d⟩ := R2.cell (i := 9) (by rw [rb_len]; omega)
        have e := R2.free 9
        have HV := hide (show by16 f 9 = f 4 / 256 by rw [show by16 f 9 = f 4 / 256 % 256 by simp [by16]]; omega)
        have RR := hide (R2.set 9 (by16 f 9))
        have R1' := hide (R1.other (a := ⟨w.heap.size + 1, 9, none⟩) (by simp) (.int .u8 (by16 f 9)))
        have O' := hide (O.setCell (p := ⟨w.heap.size + 1, 9, none⟩) (by simp) (.int .u8 (by16 f 9)))
        clear R1 R2 O
        go_wp2
        rw [← HV.out]
        first | exact ⟨⟨10, by omega, rfl, R1'.out, by rw [← rb_set]; exact RR.out, O'.out⟩, by simp [intOf]⟩ | (go_roundw; (case rel => exact ⟨10, by omega, rfl, R1'.out, by rw [← rb_set]; exact RR.out, O'.out⟩); (case measure => simp [intOf]))
      · have c := R1.cell (i := 5) (by omega)
        obtain ⟨a0, a1⟩ := hf 5 (by omega)
        obtain ⟨v, d⟩ := R2.cell (i := 10) (by rw [rb_len]; omega)
        have e := R2.free 10
        have HV := hide (show by16 f 10 = f 5 % 256 by simp [by16])
        have RR := hide (R2.set 10 (by16 f 10))
        have R1' := hide (R1.other (a := ⟨w.heap.size + 1, 10, none⟩) (by simp) (.int .u8 (by16 f 10)))
        have O' := hide (O.setCell (p := ⟨w.heap.size + 1, 10, none⟩) (by simp) (.int .u8 (by16 f 10)))
        clear R1 R2 O
        go_wp2
        rw [← HV.out]
        first | exact ⟨⟨11, by omega, rfl, R1'.out, by rw [← rb_set]; exact RR.out, O'.out⟩, by simp [intOf]⟩ | (go_roundw; (case rel => exact ⟨11, by omega, rfl, R1'.out, by rw [← rb_set]; exact RR.out, O'.out⟩); (case measure => simp [intOf]))
      · have c := R1.cell (i := 5) (by omega)
        obtain ⟨a0, a1⟩ := hf 5 (by omega)
        obtain ⟨v, d⟩ := R2.cell (i := 11) (by rw [rb_len]; omega)
        have e := R2.free 11
        have HV := hide (show by16 f 11 = f 5 / 256 by rw [show by16 f 11 = f 5 / 256 % 256 by simp [by16]]; omega)
        have RR := hide (R2.set 11 (by16 f 11))
        have R1' := hide (R1.other (a := ⟨w.heap.size + 1, 11, none⟩) (by simp) (.int .u8 (by16 f 11)))
        have O' := hide (O.setCell (p := ⟨w.heap.size + 1, 11, none⟩) (by simp) (.int .u8 (by16 f 11)))
        clear R1 R2 O
        go_wp2
        rw [← HV.out]
        first | exact ⟨⟨12, by omega, rfl, R1'.out, by rw [← rb_set]; exact RR.out, O'.out⟩, by simp [intOf]⟩ | (go_roundw; (case rel => exact ⟨12, by omega, rfl, R1'.out, by rw [← rb_set]; exact RR.out, O'.out⟩); (case measure => simp [intOf]))
      · have c := R1.cell (i := 6) (by omega)
        obtain ⟨a0, a1⟩ := hf 6 (by omega)
        obtain ⟨v, d⟩ := R2.cell (i := 12) (by rw [rb_len]; omega)
        have e := R2.free 12
        have HV := hide (show by16 f 12 = f 6 % 256 by simp [by16])
        have RR := hide (R2.set 12 (by16 f 12))
        have R1' := hide (R1.other (a := ⟨w.heap.size + 1, 12, none⟩) (by simp) (.int .u8 (by16 f 12)))
        have O' := hide (O.setCell (p := ⟨w.heap.size + 1, 12, none⟩) (by simp) (.int .u8 (by16 f 12)))
        clear R1 R2 O
        go_wp2
        rw [← HV.out]
        first | exact ⟨⟨13, by omega, rfl, R1'.out, by rw [← rb_set]; exact RR.out, O'.out⟩, by simp [intOf]⟩ | (go_roundw; (case rel => exact ⟨13, by omega, rfl, R1'.out, by rw [← rb_set]; exact RR.out, O'.out⟩); (case measure => simp [intOf]))
      · have c := R1.cell (i := 6) (by omega)
        obtain ⟨a0, a1⟩ := hf 6 (by omega)
        obtain ⟨v, d⟩ := R2.cell (i := 13) (by rw [rb_len]; omega)
        have e := R2.free 13
        have HV := hide (show by16 f 13 = f 6 / 256 by rw [show by16 f 13 = f 6 / 256 % 256 by simp [by16]]; omega)
        have RR := hide (R2.set 13 (by16 f 13))
        have R1' := hide (R1.other (a := ⟨w.heap.size + 1, 13, none⟩) (by simp) (.int .u8 (by16 f 13)))
        have O' := hide (O.setCell (p := ⟨w.heap.size + 1, 13, none⟩) (by simp) (.int .u8 (by16 f 13)))
        clear R1 R2 O
        go_wp2
        rw [← HV.out]
        first | exact ⟨⟨14, by omega, rfl, R1'.out, by rw [← rb_set]; exact RR.out, O'.out⟩, by simp [intOf]⟩ | (go_roundw; (case rel => exact ⟨14, by omega, rfl, R1'.out, by rw [← rb_set]; exact RR.out, O'.out⟩); (case measure => simp [intOf]))
      · have c := R1.cell (i := 7) (by omega)
        obtain ⟨a0, a1⟩ := hf 7 (by omega)
        obtain ⟨v, d⟩ := R2.cell (i := 14) (by rw [rb_len]; omega)
        have e := R2.free 14
        have HV := hide (show by16 f 14 = f 7 % 256 by simp [by16])
        have RR := hide (R2.set 14 (by16 f 14))
        have R1' := hide (R1.other (a := ⟨w.heap.size + 1, 14, none⟩) (by simp) (.int .u8 (by16 f 14)))
        have O' := hide (O.setCell (p := ⟨w.heap.size + 1, 14, none⟩) (by simp) (.int .u8 (by16 f 14)))
        clear R1 R2 O
        go_wp2
        rw [← HV.out]
        first | exact ⟨⟨15, by omega, rfl, R1'.out, by rw [← rb_set]; exact RR.out, O'.out⟩, by simp [intOf]⟩ | (go_roundw; (case rel => exact ⟨15, by omega, rfl, R1'.out, by rw [← rb_set]; exact RR.out, O'.out⟩); (case measure => simp [intOf]))
      · have c := R1.cell (i := 7) (by omega)
        obtain ⟨a0, a1⟩ := hf 7 (by omega)
        obtain ⟨v, d⟩ := R2.cell (i := 15) (by rw [rb_len]; omega)
        have e := R2.free 15
        have HV := hide (show by16 f 15 = f 7 / 256 by rw [show by16 f 15 = f 7 / 256 % 256 by simp [by16]]; omega)
        have RR := hide (R2.set 15 (by16 f 15))
        have R1' := hide (R1.other (a := ⟨w.heap.size + 1, 15, none⟩) (by simp) (.int .u8 (by16 f 15)))
        have O' := hide (O.setCell (p := ⟨w.heap.size + 1, 15, none⟩) (by simp) (.int .u8 (by16 f 15)))
        clear R1 R2 O
        go_wp2
        rw [← HV.out]
        first | exact ⟨⟨16, by omega, rfl, R1'.out, by rw [← rb_set]; exact RR.out, O'.out⟩, by simp [intOf]⟩ | (go_roundw; (case rel => exact ⟨16, by omega, rfl, R1'.out, by rw [← rb_set]; exact RR.out, O'.out⟩); (case measure => simp [intOf]))
      · have c := R1.cell (i := 8) (by omega)
        obtain ⟨a0, a1⟩ := hf 8 (by omega)
        obtain ⟨v, d⟩ := R2.cell (i := 16) (by rw [rb_len]; omega)
        have e := R2.free 16
        have HV := hide (show by16 f 16 = f 8 % 256 by simp [by16])
        have RR := hide (R2.set 16 (by16 f 16))
        have R1' := hide (R1.other (a := ⟨w.heap.size + 1, 16, none⟩) (by simp) (.int .u8 (by16 f 16)))
        have O' := hide (O.setCell (p := ⟨w.heap.size + 1, 16, none⟩) (by simp) (.int .u8 (by16 f 16)))
        clear R1 R2 O
        go_wp2
        rw [← HV.out]
        first | exact ⟨⟨17, by omega, rfl, R1'.out, by rw [← rb_set]; exact RR.out, O'.out⟩, by simp [intOf]⟩ | (go_roundw; (case rel => exact ⟨17, by omega, rfl, R1'.out, by rw [← rb_set]; exact RR.out, O'.out⟩); (case measure => simp [intOf]))
      · have c := R1.cell (i := 8) (by omega)
        obtain ⟨a0, a1⟩ := hf 8 (by omega)
        obtain ⟨v, d⟩ := R2.cell (i := 17) (by rw [rb_len]; omega)
        have e := R2.free 17
        have HV := hide (show by16 f 17 = f 8 / 256 by rw [show by16 f 17 = f 8 / 256 % 256 by simp [by16]]; omega)
        have RR := hide (R2.set 17 (by16 f 17))
        have R1' := hide (R1.other (a := ⟨w.heap.size + 1, 17, none⟩) (by simp) (.int .u8 (by16 f 17)))
        have O' := hide (O.setCell (p := ⟨w.heap.size + 1, 17, none⟩) (by simp) (.int .u8 (by16 f 17)))
        clear R1 R2 O
        go_wp2
        rw [← HV.out]
        first | exact ⟨⟨18, by omega, rfl, R1'.out, by rw [← rb_set]; exact RR.out, O'.out⟩, by simp [intOf]⟩ | (go_roundw; (case rel => exact ⟨18, by omega, rfl, R1'.out, by rw [← rb_set]; exact RR.out, O'.out⟩); (case measure => simp [intOf]))
      · have c := R1.cell (i := 9) (by omega)
        obtain ⟨a0, a1⟩ := hf 9 (by omega)
        obtain ⟨v, d⟩ := R2.cell (i := 18) (by rw [rb_len]; omega)
        have e := R2.free 18
        have HV := hide (show by16 f 18 = f 9 % 256 by simp [by16])
        have RR := hide (R2.set 18 (by16 f 18))
        have R1' := hide (R1.other (a := ⟨w.heap.size + 1, 18, none⟩) (by simp) (.int .u8 (by16 f 18)))
        have O' := hide (O.setCell (p := ⟨w.heap.size + 1, 18, none⟩) (by simp) (.int .u8 (by16 f 18)))
        clear R1 R2 O
        go_wp2
        rw [← HV.out]
        first | exact ⟨⟨19, by omega, rfl, R1'.out, by rw [← rb_set]; exact RR.out, O'.out⟩, by simp [intOf]⟩ | (go_roundw; (case rel => exact ⟨19, by omega, rfl, R1'.out, by rw [← rb_set]; exact RR.out, O'.out⟩); (case measure => simp [intOf]))
      · have c := R1.cell (i := 9) (by omega)
        obtain ⟨a0, a1⟩ := hf 9 (by omega)
        obtain ⟨v, d⟩ := R2.cell (i := 19) (by rw [rb_len]; omega)
        have e := R2.free 19
        have HV := hide (show by16 f 19 = f 9 / 256 by rw [show by16 f 19 = f 9 / 256 % 256 by simp [by16]]; omega)
        have RR := hide (R2.set 19 (by16 f 19))
        have R1' := hide (R1.other (a := ⟨w.heap.size + 1, 19, none⟩) (by simp) (.int .u8 (by16 f 19)))
        have O' := hide (O.setCell (p := ⟨w.heap.size + 1, 19, none⟩) (by simp) (.int .u8 (by16 f 19)))
        clear R1 R2 O
        go_wp2
        rw [← HV.out]
        first | exact ⟨⟨20, by omega, rfl, R1'.out, by rw [← rb_set]; exact RR.out, O'.out⟩, by simp [intOf]⟩ | (go_roundw; (case rel => exact ⟨20, by omega, rfl, R1'.out, by rw [← rb_set]; exact RR.out, O'.out⟩); (case measure => simp [intOf]))
      · have c := R1.cell (i := 10) (by omega)
        obtain ⟨a0, a1⟩ := hf 10 (by omega)
        obtain ⟨v, d⟩ := R2.cell (i := 20) (by rw [rb_len]; omega)
        have e := R2.free 20
        have HV := hide (show by16 f 20 = f 10 % 256 by simp [by16])
        have RR := hide (R2.set 20 (by16 f 20))
        have R1' := hide (R1.other (a := ⟨w.heap.size + 1, 20, none⟩) (by simp) (.int .u8 (by16 f 20)))
        have O' := hide (O.setCell (p := ⟨w.heap.size + 1, 20, none⟩) (by simp) (.int .u8 (by16 f 20)))
        clear R1 R2 O
        go_wp2
        rw [← HV.out]
        first | exact ⟨⟨21, by omega, rfl, R1'.out, by rw [← rb_set]; exact RR.out, O'.out⟩, by simp [intOf]⟩ | (go_roundw; (case rel => exact ⟨21, by omega, rfl, R1'.out, by rw [← rb_set]; exact RR.out, O'.out⟩); (case measure => simp [intOf]))
      · have c := R1.cell (i := 10) (by omega)
        obtain ⟨a0, a1⟩ := hf 10 (by omega)
        obtain ⟨v, d⟩ := R2.cell (i := 21) (by rw [rb_len]; omega)
        have e := R2.free 21
        have HV := hide (show by16 f 21 = f 10 / 256 by rw [show by16 f 21 = f 10 / 256 % 256 by simp [by16]]; omega)
        have RR := hide (R2.set 21 (by16 f 21))
        have R1' := hide (R1.other (a := ⟨w.heap.size + 1, 21, none⟩) (by simp) (.int .u8 (by16 f 21)))
        have O' := hide (O.setCell (p := ⟨w.heap.size + 1, 21, none⟩) (by simp) (.int .u8 (by16 f 21)))
        clear R1 R2 O
        go_wp2
        rw [← HV.out]
        first | exact ⟨⟨22, by omega, rfl, R1'.out, by rw [← rb_set]; exact RR.out, O'.out⟩, by simp [intOf]⟩ | (go_roundw; (case rel => exact ⟨22, by omega, rfl, R1'.out, by rw [← rb_set]; exact RR.out, O'.out⟩); (case measure => simp [intOf]))
      · have c := R1.cell (i := 11) (by omega)
        obtain ⟨a0, a1⟩ := hf 11 (by omega)
        obtain ⟨v, d⟩ := R2.cell (i := 22) (by rw [rb_len]; omega)
        have e := R2.free 22
        have HV := hide (show by16 f 22 = f 11 % 256 by simp [by16])
        have RR := hide (R2.set 22 (by16 f 22))
        have R1' := hide (R1.other (a := ⟨w.heap.size + 1, 22, none⟩) (by simp) (.int .u8 (by16 f 22)))
        have O' := hide (O.setCell (p := ⟨w.heap.size + 1, 22, none⟩) (by simp) (.int .u8 (by16 f 22)))
        clear R1 R2 O
        go_wp2
        rw [← HV.out]
        first | exact ⟨⟨23, by omega, rfl, R1'.out, by rw [← rb_set]; exact RR.out, O'.out⟩, by simp [intOf]⟩ | (go_roundw; (case rel => exact ⟨23, by omega, rfl, R1'.out, by rw [← rb_set]; exact RR.out, O'.out⟩); (case measure => simp [intOf]))
      · have c := R1.cell (i := 11) (by omega)
        obtain ⟨a0, a1⟩ := hf 11 (by omega)
        obtain ⟨v, d⟩ := R2.cell (i := 23) (by rw [rb_len]; omega)
        have e := R2.free 23
        have HV := hide (show by16 f 23 = f 11 / 256 by rw [show by16 f 23 = f 11 / 256 % 256 by simp [by16]]; omega)
        have RR := hide (R2.set 23 (by16 f 23))
        have R1' := hide (R1.other (a := ⟨w.heap.size + 1, 23, none⟩) (by simp) (.int .u8 (by16 f 23)))
        have O' := hide (O.setCell (p := ⟨w.heap.size + 1, 23, none⟩) (by simp) (.int .u8 (by16 f 23)))
        clear R1 R2 O
        go_wp2
        rw [← HV.out]
        first | exact ⟨⟨24, by omega, rfl, R1'.out, by rw [← rb_set]; exact RR.out, O'.out⟩, by simp [intOf]⟩ | (go_roundw; (case rel => exact ⟨24, by omega, rfl, R1'.out, by rw [← rb_set]; exact RR.out, O'.out⟩); (case measure => simp [intOf]))
      · have c := R1.cell (i := 12) (by omega)
        obtain ⟨a0, a1⟩ := hf 12 (by omega)
        obtain ⟨v, d⟩ := R2.cell (i := 24) (by rw [rb_len]; omega)
        have e := R2.free 24
        have HV := hide (show by16 f 24 = f 12 % 256 by simp [by16])
        have RR := hide (R2.set 24 (by16 f 24))
        have R1' := hide (R1.other (a := ⟨w.heap.size + 1, 24, none⟩) (by simp) (.int .u8 (by16 f 24)))
        have O' := hide (O.setCell (p := ⟨w.heap.size + 1, 24, none⟩) (by simp) (.int .u8 (by16 f 24)))
        clear R1 R2 O
        go_wp2
        rw [← HV.out]
        first | exact ⟨⟨25, by omega, rfl, R1'.out, by rw [← rb_set]; exact RR.out, O'.out⟩, by simp [intOf]⟩ | (go_roundw; (case rel => exact ⟨25, by omega, rfl, R1'.out, by rw [← rb_set]; exact RR.out, O'.out⟩); (case measure => simp [intOf]))
      · have c := R1.cell (i := 12) (by omega)
        obtain ⟨a0, a1⟩ := hf 12 (by omega)
        obtain ⟨v, d⟩ := R2.cell (i := 25) (by rw [rb_len]; omega)
        have e := R2.free 25
        have HV := hide (show by16 f 25 = f 12 / 256 by rw [show by16 f 25 = f 12 / 256 % 256 by simp [by16]]; omega)
        have RR := hide (R2.set 25 (by16 f 25))
        have R1' := hide (R1.other (a := ⟨w.heap.size + 1, 25, none⟩) (by simp) (.int .u8 (by16 f 25)))
        have O' := hide (O.setCell (p := ⟨w.heap.size + 1, 25, none⟩) (by simp) (.int .u8 (by16 f 25)))
        clear R1 R2 O
        go_wp2
        rw [← HV.out]
        first | exact ⟨⟨26, by omega, rfl, R1'.out, by rw [← rb_set]; exact RR.out, O'.out⟩, by simp [intOf]⟩ | (go_roundw; (case rel => exact ⟨26, by omega, rfl, R1'.out, by rw [← rb_set]; exact RR.out, O'.out⟩); (case measure => simp [intOf]))
      · have c := R1.cell (i := 13) (by omega)
        obtain ⟨a0, a1⟩ := hf 13 (by omega)
        obtain ⟨v, d⟩ := R2.cell (i := 26) (by rw [rb_len]; omega)
        have e := R2.free 26
        have HV := hide (show by16 f 26 = f 13 % 256 by simp [by16])
        have RR := hide (R2.set 26 (by16 f 26))
        have R1' := hide (R1.other (a := ⟨w.heap.size + 1, 26, none⟩) (by simp) (.int .u8 (by16 f 26)))
        have O' := hide (O.setCell (p := ⟨w.heap.size + 1, 26, none⟩) (by simp) (.int .u8 (by16 f 26)))
        clear R1 R2 O
        go_wp2
        rw [← HV.out]
        first | exact ⟨⟨27, by omega, rfl, R1'.out, by rw [← rb_set]; exact RR.out, O'.out⟩, by simp [intOf]⟩ | (go_roundw; (case rel => exact ⟨27, by omega, rfl, R1'.out, by rw [← rb_set]; exact RR.out, O'.out⟩); (case measure => simp [intOf]))
      · have c := R1.cell (i := 13) (by omega)
        obtain ⟨a0, a1⟩ := hf 13 (by omega)
        obtain ⟨v, d⟩ := R2.cell (i := 27) (by rw [rb_len]; omega)
        have e := R2.free 27
        have HV := hide (show by16 f 27 = f 13 / 256 by rw [show by16 f 27 = f 13 / 256 % 256 by simp [by16]]; omega)
        have RR := hide (R2.set 27 (by16 f 27))
        have R1' := hide (R1.other (a := ⟨w.heap.size + 1, 27, none⟩) (by simp) (.int .u8 (by16 f 27)))
        have O' := hide (O.setCell (p := ⟨w.heap.size + 1, 27, none⟩) (by simp) (.int .u8 (by16 f 27)))
        clear R1 R2 O
        go_wp2
        rw [← HV.out]
        first | exact ⟨⟨28, by omega, rfl, R1'.out, by rw [← rb_set]; exact RR.out, O'.out⟩, by simp [intOf]⟩ | (go_roundw; (case rel => exact ⟨28, by omega, rfl, R1'.out, by rw [← rb_set]; exact RR.out, O'.out⟩); (case measure => simp [intOf]))
      · have c := R1.cell (i := 14) (by omega)
        obtain ⟨a0, a1⟩ := hf 14 (by omega)
        obtain ⟨v, d⟩ := R2.cell (i := 28) (by rw [rb_len]; omega)
        have e := R2.free 28
        have HV := hide (show by16 f 28 = f 14 % 256 by simp [by16])
        have RR := hide (R2.set 28 (by16 f 28))
        have R1' := hide (R1.other (a := ⟨w.heap.size + 1, 28, none⟩) (by simp) (.int .u8 (by16 f 28)))
        have O' := hide (O.setCell (p := ⟨w.heap.size + 1, 28, none⟩) (by simp) (.int .u8 (by16 f 28)))
        clear R1 R2 O
        go_wp2
        rw [← HV.out]
        first | exact ⟨⟨29, by omega, rfl, R1'.out, by rw [← rb_set]; exact RR.out, O'.out⟩, by simp [intOf]⟩ | (go_roundw; (case rel => exact ⟨29, by omega, rfl, R1'.out, by rw [← rb_set]; exact RR.out, O'.out⟩); (case measure => simp [intOf]))
      · have c := R1.cell (i := 14) (by omega)
        obtain ⟨a0, a1⟩ := hf 14 (by omega)
        obtain ⟨v, d⟩ := R2.cell (i := 29) (by rw [rb_len]; omega)
        have e := R2.free 29
        have HV := hide (show by16 f 29 = f 14 / 256 by rw [show by16 f 29 = f 14 / 256 % 256 by simp [by16]]; omega)
        have RR := hide (R2.set 29 (by16 f 29))
        have R1' := hide (R1.other (a := ⟨w.heap.size + 1, 29, none⟩) (by simp) (.int .u8 (by16 f 29)))
        have O' := hide (O.setCell (p := ⟨w.heap.size + 1, 29, none⟩) (by simp) (.int .u8 (by16 f 29)))
        clear R1 R2 O
        go_wp2
        rw [← HV.out]
        first | exact ⟨⟨30, by omega, rfl, R1'.out, by rw [← rb_set]; exact RR.out, O'.out⟩, by simp [intOf]⟩ | (go_roundw; (case rel => exact ⟨30, by omega, rfl, R1'.out, by rw [← rb_set]; exact RR.out, O'.out⟩); (case measure => simp [intOf]))
      · have c := R1.cell (i := 15) (by omega)
        obtain ⟨a0, a1⟩ := hf 15 (by omega)
        obtain ⟨v, d⟩ := R2.cell (i := 30) (by rw [rb_len]; omega)
        have e := R2.free 30
        have HV := hide (show by16 f 30 = f 15 % 256 by simp [by16])
        have RR := hide (R2.set 30 (by16 f 30))
        have R1' := hide (R1.other (a := ⟨w.heap.size + 1, 30, none⟩) (by simp) (.int .u8 (by16 f 30)))
        have O' := hide (O.setCell (p := ⟨w.heap.size + 1, 30, none⟩) (by simp) (.int .u8 (by16 f 30)))
        clear R1 R2 O
        go_wp2
        rw [← HV.out]
        first | exact ⟨⟨31, by omega, rfl, R1'.out, by rw [← rb_set]; exact RR.out, O'.out⟩, by simp [intOf]⟩ | (go_roundw; (case rel => exact ⟨31, by omega, rfl, R1'.out, by rw [← rb_set]; exact RR.out, O'.out⟩); (case measure => simp [intOf]))
      · have c := R1.cell (i := 15) (by omega)
        obtain ⟨a0, a1⟩ := hf 15 (by omega)
        obtain ⟨v, d⟩ := R2.cell (i := 31) (by rw [rb_len]; omega)
        have e := R2.free 31
        have HV := hide (show by16 f 31 = f 15 / 256 by rw [show by16 f 31 = f 15 / 256 % 256 by simp [by16]]; omega)
        have RR := hide (R2.set 31 (by16 f 31))
        have R1' := hide (R1.other (a := ⟨w.heap.size + 1, 31, none⟩) (by simp) (.int .u8 (by16 f 31)))
        have O' := hide (O.setCell (p := ⟨w.heap.size + 1, 31, none⟩) (by simp) (.int .u8 (by16 f 31)))
        clear R1 R2 O
        go_wp2
        rw [← HV.out]
        first | exact ⟨⟨32, by omega, rfl, R1'.out, by rw [← rb_set]; exact RR.out, O'.out⟩, by simp [intOf]⟩ | (go_roundw; (case rel => exact ⟨32, by omega, rfl, R1'.out, by rw [← rb_set]; exact RR.out, O'.out⟩); (case measure => simp [intOf]))
    · have e : k = 32 := by omega
      subst e
      have hcv := conv_bytes wr (w.heap.size + 1) 5 (rb f 32) 32 32 (0, 0) R2 (rb_len f 32)
      generalize hB : bs (rb f 32) = B at hcv
      have HB := hide hB
      clear hB R1 R2
      go_wp2
      go_ret
      exact ⟨by rw [HB.out]; rfl, O⟩

end Go.Proofs.YtmhfmhmpoobmlaaGreatDoor

/- The contract of the document's Parts: 32 bytes as 16 digits. -/
namespace Go.Proofs.YtmhfmhmpoobmlaaGreatDoor
open Go.RowKit

/-- Digit i when k bytes have been read. -/
def pt (s : ByteArray) (k : Nat) : Nat → Int := fun i => (if 2 * i < k then bt s (2 * i) else 0) + (if 2 * i + 1 < k then bt s (2 * i + 1) * 256 else 0)

theorem ptor0 (s : ByteArray) (i : Nat) : bits BinOp.or IntKind.u64 0 (bt s i) = bt s i := by
  have hb := bt_bd s i
  rw [or_join 8 256 (by decide) ⟨by decide, by decide⟩ ⟨hb.1, by omega⟩ (by decide) (by omega)]
  omega
theorem ptor1 (s : ByteArray) (i j : Nat) : bits BinOp.or IntKind.u64 (bt s i) (bt s j * 256) = bt s i + bt s j * 256 := by
  have hb := bt_bd s i
  have hc := bt_bd s j
  exact or_join' 8 256 (by decide) ⟨hb.1, by omega⟩ ⟨by omega, by omega⟩ (by omega) (by omega)

theorem pt_dig (s : ByteArray) (k : Nat) : Dig (pt s k) 16 := fun i _ => by
  have hb := bt_bd s (2 * i)
  have hc := bt_bd s (2 * i + 1)
  unfold pt
  split <;> split <;> omega

theorem pt_even (s : ByteArray) (j i : Nat) : upd (pt s (2 * j)) j (bt s (2 * j)) i = pt s (2 * j + 1) i := by
  unfold upd pt
  by_cases h : i = j
  · subst h
    simp
  · rw [if_neg h]
    congr 1
    · by_cases h2 : 2 * i < 2 * j
      · rw [if_pos h2, if_pos (by omega)]
      · rw [if_neg h2, if_neg (by omega)]
    · by_cases h2 : 2 * i + 1 < 2 * j
      · rw [if_pos h2, if_pos (by omega)]
      · rw [if_neg h2, if_neg (by omega)]

theorem pt_odd (s : ByteArray) (j i : Nat) : upd (pt s (2 * j + 1)) j (bt s (2 * j) + bt s (2 * j + 1) * 256) i = pt s (2 * j + 1 + 1) i := by
  unfold upd pt
  by_cases h : i = j
  · subst h
    simp
    intro h
    omega
  · rw [if_neg h]
    congr 1
    · by_cases h2 : 2 * i < 2 * j + 1
      · rw [if_pos h2, if_pos (by omega)]
      · rw [if_neg h2, if_neg (by omega)]
    · by_cases h2 : 2 * i + 1 < 2 * j + 1
      · rw [if_pos h2, if_pos (by omega)]
      · rw [if_neg h2, if_neg (by omega)]

theorem pt_S (s : ByteArray) : S (pt s 32) 16 = val s := by
  simp [S, pt, val, sw]
  omega

set_option maxRecDepth 100000 in
set_option maxHeartbeats 8000000 in
theorem parts_any (s : ByteArray) (w : World) (hs : s.size = 32) :
    Calls Tryz.prog 14 #[.string s] w fun r w' => r = .returned (.agg (arr 16 (pt s 32))) ∧ Below w.heap.size w w' := by
  go_enter Tryz.func14, Tryz.ntmps14
  go_wp2
  rw [show #[Value.int IntKind.u64 0, Value.int IntKind.u64 0, Value.int IntKind.u64 0, Value.int IntKind.u64 0, Value.int IntKind.u64 0, Value.int IntKind.u64 0, Value.int IntKind.u64 0, Value.int IntKind.u64 0, Value.int IntKind.u64 0, Value.int IntKind.u64 0, Value.int IntKind.u64 0, Value.int IntKind.u64 0, Value.int IntKind.u64 0, Value.int IntKind.u64 0, Value.int IntKind.u64 0, Value.int IntKind.u64 0] = arr 16 (fun _ => 0) from rfl]
  have R1 : Row ((w.alloc (.cells (arr 16 fun _ => 0) 36)).alloc (.cells (arr 16 fun _ => 0) 36)) w.heap.size 36 16 (fun _ => 0) := (Row.new w 36 16 _).alloc _
  have R2 : Row ((w.alloc (.cells (arr 16 fun _ => 0) 36)).alloc (.cells (arr 16 fun _ => 0) 36)) (w.heap.size + 1) 36 16 (pt s 0) := (Row.new' _ 36 16 _ (by simp)).congr (fun i _ => by simp [pt])
  have O : Below w.heap.size w ((w.alloc (.cells (arr 16 fun _ => 0) 36)).alloc (.cells (arr 16 fun _ => 0) 36)) := ((Below.refl _ _).alloc (Nat.le_refl _) _).alloc (by simp) _
  generalize (w.alloc (.cells (arr 16 fun _ => 0) 36)).alloc (.cells (arr 16 fun _ => 0) 36) = W at R1 R2 O ⊢
  go_loopw [4] (fun i wr => ∃ k : Nat, k ≤ 32 ∧ i = .int .i64 k ∧ Row wr w.heap.size 36 16 (fun _ => 0) ∧ Row wr (w.heap.size + 1) 36 16 (pt s k) ∧ Below w.heap.size w wr) (fun i _ => 32 - (intOf i).toNat)
  case atStart => exact ⟨0, by omega, rfl, R1, R2, O⟩
  case round =>
    clear R1 R2 O
    obtain ⟨k, hk, rfl, R1, R2, O⟩ := hrel
    by_cases hlt : k < 32
    · have hc : k = 0 ∨ k = 1 ∨ k = 2 ∨ k = 3 ∨ k = 4 ∨ k = 5 ∨ k = 6 ∨ k = 7 ∨ k = 8 ∨ k = 9 ∨ k = 10 ∨ k = 11 ∨ k = 12 ∨ k = 13 ∨ k = 14 ∨ k = 15 ∨ k = 16 ∨ k = 17 ∨ k = 18 ∨ k = 19 ∨ k = 20 ∨ k = 21 ∨ k = 22 ∨ k = 23 ∨ k = 24 ∨ k = 25 ∨ k = 26 ∨ k = 27 ∨ k = 28 ∨ k = 29 ∨ k = 30 ∨ k = 31 := by omega
      clear hlt hk
      rcases hc with rfl | rfl | rfl | rfl | rfl | rfl | rfl | rfl | rfl | rfl | rfl | rfl | rfl | rfl | rfl | rfl | rfl | rfl | rfl | rfl | rfl | rfl | rfl | rfl | rfl | rfl | rfl | rfl | rfl | rfl | rfl | rfl
      · have hb := bt_at s 0 (by omega)
        obtain ⟨p, q⟩ := bt_bd s 0
        have e := ptor0 s 0
        have c := R2.cell (i := 0) (by omega)
        rw [show pt s 0 0 = 0 by simp [pt]] at c
        have f := R2.free 0
        have RR := hide ((R2.set 0 (bt s 0)).congr (fun i _ => pt_even s 0 i))
        have R1' := hide (R1.other (a := ⟨w.heap.size + 1, 0, none⟩) (by simp) (.int .u64 (bt s 0)))
        have O' := hide (O.setCell (p := ⟨w.heap.size + 1, 0, none⟩) (by simp) (.int .u64 (bt s 0)))
        clear R1 R2 O
        go_wp2_with fail
        go_region
        go_wp2
        first | exact ⟨⟨1, by omega, rfl, R1'.out, RR.out, O'.out.drew⟩, by simp [intOf]⟩ | (go_roundw; (case rel => exact ⟨1, by omega, rfl, R1'.out, RR.out, O'.out.drew⟩); (case measure => simp [intOf]))
      · have hb := bt_at s 1 (by omega)
        obtain ⟨p, q⟩ := bt_bd s 1
        have e := ptor1 s 0 1
        have c := R2.cell (i := 0) (by omega)
        rw [show pt s 1 0 = bt s 0 by simp [pt]] at c
        have f := R2.free 0
        have RR := hide ((R2.set 0 (bt s 0 + bt s 1 * 256)).congr (fun i _ => pt_odd s 0 i))
        have R1' := hide (R1.other (a := ⟨w.heap.size + 1, 0, none⟩) (by simp) (.int .u64 (bt s 0 + bt s 1 * 256)))
        have O' := hide (O.setCell (p := ⟨w.heap.size + 1, 0, none⟩) (by simp) (.int .u64 (bt s 0 + bt s 1 * 256)))
        clear R1 R2 O
        go_wp2_with fail
        go_region
        go_wp2
        first | exact ⟨⟨2, by omega, rfl, R1'.out, RR.out, O'.out.drew⟩, by simp [intOf]⟩ | (go_roundw; (case rel => exact ⟨2, by omega, rfl, R1'.out, RR.out, O'.out.drew⟩); (case measure => simp [intOf]))
      · have hb := bt_at s 2 (by omega)
        obtain ⟨p, q⟩ := bt_bd s 2
        have e := ptor0 s 2
        have c := R2.cell (i := 1) (by omega)
        rw [show pt s 2 1 = 0 by simp [pt]] at c
        have f := R2.free 1
        have RR := hide ((R2.set 1 (bt s 2)).congr (fun i _ => pt_even s 1 i))
        have R1' := hide (R1.other (a := ⟨w.heap.size + 1, 1, none⟩) (by simp) (.int .u64 (bt s 2)))
        have O' := hide (O.setCell (p := ⟨w.heap.size + 1, 1, none⟩) (by simp) (.int .u64 (bt s 2)))
        clear R1 R2 O
        go_wp2_with fail
        go_region
        go_wp2
        first | exact ⟨⟨3, by omega, rfl, R1'.out, RR.out, O'.out.drew⟩, by simp [intOf]⟩ | (go_roundw; (case rel => exact ⟨3, by omega, rfl, R1'.out, RR.out, O'.out.drew⟩); (case measure => simp [intOf]))
      · have hb := bt_at s 3 (by omega)
        obtain ⟨p, q⟩ := bt_bd s 3
        have e := ptor1 s 2 3
        have c := R2.cell (i := 1) (by omega)
        rw [show pt s 3 1 = bt s 2 by simp [pt]] at c
        have f := R2.free 1
        have RR := hide ((R2.set 1 (bt s 2 + bt s 3 * 256)).congr (fun i _ => pt_odd s 1 i))
        have R1' := hide (R1.other (a := ⟨w.heap.size + 1, 1, none⟩) (by simp) (.int .u64 (bt s 2 + bt s 3 * 256)))
        have O' := hide (O.setCell (p := ⟨w.heap.size + 1, 1, none⟩) (by simp) (.int .u64 (bt s 2 + bt s 3 * 256)))
        clear R1 R2 O
        go_wp2_with fail
        go_region
        go_wp2
        first | exact ⟨⟨4, by omega, rfl, R1'.out, RR.out, O'.out.drew⟩, by simp [intOf]⟩ | (go_roundw; (case rel => exact ⟨4, by omega, rfl, R1'.out, RR.out, O'.out.drew⟩); (case measure => simp [intOf]))
      · have hb := bt_at s 4 (by omega)
        obtain ⟨p, q⟩ := bt_bd s 4
        have e := ptor0 s 4
        have c := R2.cell (i := 2) (by omega)
        rw [show pt s 4 2 = 0 by simp [pt]] at c
        have f := R2.free 2
        have RR := hide ((R2.set 2 (bt s 4)).congr (fun i _ => pt_even s 2 i))
        have R1' := hide (R1.other (a := ⟨w.heap.size + 1, 2, none⟩) (by simp) (.int .u64 (bt s 4)))
        have O' := hide (O.setCell (p := ⟨w.heap.size + 1, 2, none⟩) (by simp) (.int .u64 (bt s 4)))
        clear R1 R2 O
        go_wp2_with fail
        go_region
        go_wp2
        first | exact ⟨⟨5, by omega, rfl, R1'.out, RR.out, O'.out.drew⟩, by simp [intOf]⟩ | (go_roundw; (case rel => exact ⟨5, by omega, rfl, R1'.out, RR.out, O'.out.drew⟩); (case measure => simp [intOf]))
      · have hb := bt_at s 5 (by omega)
        obtain ⟨p, q⟩ := bt_bd s 5
        have e := ptor1 s 4 5
        have c := R2.cell (i := 2) (by omega)
        rw [show pt s 5 2 = bt s 4 by simp [pt]] at c
        have f := R2.free 2
        have RR := hide ((R2.set 2 (bt s 4 + bt s 5 * 256)).congr (fun i _ => pt_odd s 2 i))
        have R1' := hide (R1.other (a := ⟨w.heap.size + 1, 2, none⟩) (by simp) (.int .u64 (bt s 4 + bt s 5 * 256)))
        have O' := hide (O.setCell (p := ⟨w.heap.size + 1, 2, none⟩) (by simp) (.int .u64 (bt s 4 + bt s 5 * 256)))
        clear R1 R2 O
        go_wp2_with fail
        go_region
        go_wp2
        first | exact ⟨⟨6, by omega, rfl, R1'.out, RR.out, O'.out.drew⟩, by simp [intOf]⟩ | (go_roundw; (case rel => exact ⟨6, by omega, rfl, R1'.out, RR.out, O'.out.drew⟩); (case measure => simp [intOf]))
      · have hb := bt_at s 6 (by omega)
        obtain ⟨p, q⟩ := bt_bd s 6
        have e := ptor0 s 6
        have c := R2.cell (i := 3) (by omega)
        rw [show pt s 6 3 = 0 by simp [pt]] at c
        have f := R2.free 3
        have RR := hide ((R2.set 3 (bt s 6)).congr (fun i _ => pt_even s 3 i))
        have R1' := hide (R1.other (a := ⟨w.heap.size + 1, 3, none⟩) (by simp) (.int .u64 (bt s 6)))
        have O' := hide (O.setCell (p := ⟨w.heap.size + 1, 3, none⟩) (by simp) (.int .u64 (bt s 6)))
        clear R1 R2 O
        go_wp2_with fail
        go_region
        go_wp2
        first | exact ⟨⟨7, by omega, rfl, R1'.out, RR.out, O'.out.drew⟩, by simp [intOf]⟩ | (go_roundw; (case rel => exact ⟨7, by omega, rfl, R1'.out, RR.out, O'.out.drew⟩); (case measure => simp [intOf]))
      · have hb := bt_at s 7 (by omega)
        obtain ⟨p, q⟩ := bt_bd s 7
        have e := ptor1 s 6 7
        have c := R2.cell (i := 3) (by omega)
        rw [show pt s 7 3 = bt s 6 by simp [pt]] at c
        have f := R2.free 3
        have RR := hide ((R2.set 3 (bt s 6 + bt s 7 * 256)).congr (fun i _ => pt_odd s 3 i))
        have R1' := hide (R1.other (a := ⟨w.heap.size + 1, 3, none⟩) (by simp) (.int .u64 (bt s 6 + bt s 7 * 256)))
        have O' := hide (O.setCell (p := ⟨w.heap.size + 1, 3, none⟩) (by simp) (.int .u64 (bt s 6 + bt s 7 * 256)))
        clear R1 R2 O
        go_wp2_with fail
        go_region
        go_wp2
        first | exact ⟨⟨8, by omega, rfl, R1'.out, RR.out, O'.out.drew⟩, by simp [intOf]⟩ | (go_roundw; (case rel => exact ⟨8, by omega, rfl, R1'.out, RR.out, O'.out.drew⟩); (case measure => simp [intOf]))
      · have hb := bt_at s 8 (by omega)
        obtain ⟨p, q⟩ := bt_bd s 8
        have e := ptor0 s 8
        have c := R2.cell (i := 4) (by omega)
        rw [show pt s 8 4 = 0 by simp [pt]] at c
        have f := R2.free 4
        have RR := hide ((R2.set 4 (bt s 8)).congr (fun i _ => pt_even s 4 i))
        have R1' := hide (R1.other (a := ⟨w.heap.size + 1, 4, none⟩) (by simp) (.int .u64 (bt s 8)))
        have O' := hide (O.setCell (p := ⟨w.heap.size + 1, 4, none⟩) (by simp) (.int .u64 (bt s 8)))
        clear R1 R2 O
        go_wp2_with fail
        go_region
        go_wp2
        first | exact ⟨⟨9, by omega, rfl, R1'.out, RR.out, O'.out.drew⟩, by simp [intOf]⟩ | (go_roundw; (case rel => exact ⟨9, by omega, rfl, R1'.out, RR.out, O'.out.drew⟩); (case measure => simp [intOf]))
      · have hb := bt_at s 9 (by omega)
        obtain ⟨p, q⟩ := bt_bd s 9
        have e := ptor1 s 8 9
        have c := R2.cell (i := 4) (by omega)
        rw [show pt s 9 4 = bt s 8 by simp [pt]] at c
        have f := R2.free 4
        have RR := hide ((R2.set 4 (bt s 8 + bt s 9 * 256)).congr (fun i _ => pt_odd s 4 i))
        have R1' := hide (R1.other (a := ⟨w.heap.size + 1, 4, none⟩) (by simp) (.int .u64 (bt s 8 + bt s 9 * 256)))
        have O' := hide (O.setCell (p := ⟨w.heap.size + 1, 4, none⟩) (by simp) (.int .u64 (bt s 8 + bt s 9 * 256)))
        clear R1 R2 O
        go_wp2_with fail
        go_region
        go_wp2
        first | exact ⟨⟨10, by omega, rfl, R1'.out, RR.out, O'.out.drew⟩, by simp [intOf]⟩ | (go_roundw; (case rel => exact ⟨10, by omega, rfl, R1'.out, RR.out, O'.out.drew⟩); (case measure => simp [intOf]))
      · have hb := bt_at s 10 (by omega)
        obtain ⟨p, q⟩ := bt_bd s 10
        have e := ptor0 s 10
        have c := R2.cell (i := 5) (by omega)
        rw [show pt s 10 5 = 0 by simp [pt]] at c
        have f := R2.free 5
        have RR := hide ((R2.set 5 (bt s 10)).congr (fun i _ => pt_even s 5 i))
        have R1' := hide (R1.other (a := ⟨w.heap.size + 1, 5, none⟩) (by simp) (.int .u64 (bt s 10)))
        have O' := hide (O.setCell (p := ⟨w.heap.size + 1, 5, none⟩) (by simp) (.int .u64 (bt s 10)))
        clear R1 R2 O
        go_wp2_with fail
        go_region
        go_wp2
        first | exact ⟨⟨11, by omega, rfl, R1'.out, RR.out, O'.out.drew⟩, by simp [intOf]⟩ | (go_roundw; (case rel => exact ⟨11, by omega, rfl, R1'.out, RR.out, O'.out.drew⟩); (case measure => simp [intOf]))
      · have hb := bt_at s 11 (by omega)
        obtain ⟨p, q⟩ := bt_bd s 11
        have e := ptor1 s 10 11
        have c := R2.cell (i := 5) (by omega)
        rw [show pt s 11 5 = bt s 10 by simp [pt]] at c
        have f := R2.free 5
        have RR := hide ((R2.set 5 (bt s 10 + bt s 11 * 256)).congr (fun i _ => pt_odd s 5 i))
        have R1' := hide (R1.other (a := ⟨w.heap.size + 1, 5, none⟩) (by simp) (.int .u64 (bt s 10 + bt s 11 * 256)))
        have O' := hide (O.setCell (p := ⟨w.heap.size + 1, 5, none⟩) (by simp) (.int .u64 (bt s 10 + bt s 11 * 256)))
        clear R1 R2 O
        go_wp2_with fail
        go_region
        go_wp2
        first | exact ⟨⟨12, by omega, rfl, R1'.out, RR.out, O'.out.drew⟩, by simp [intOf]⟩ | (go_roundw; (case rel => exact ⟨12, by omega, rfl, R1'.out, RR.out, O'.out.drew⟩); (case measure => simp [intOf]))
      · have hb := bt_at s 12 (by omega)
        obtain ⟨p, q⟩ := bt_bd s 12
        have e := ptor0 s 12
        have c := R2.cell (i := 6) (by omega)
        rw [show pt s 12 6 = 0 by simp [pt]] at c
        have f := R2.free 6
        have RR := hide ((R2.set 6 (bt s 12)).congr (fun i _ => pt_even s 6 i))
        have R1' := hide (R1.other (a := ⟨w.heap.size + 1, 6, none⟩) (by simp) (.int .u64 (bt s 12)))
        have O' := hide (O.setCell (p := ⟨w.heap.size + 1, 6, none⟩) (by simp) (.int .u64 (bt s 12)))
        clear R1 R2 O
        go_wp2_with fail
        go_region
        go_wp2
        first | exact ⟨⟨13, by omega, rfl, R1'.out, RR.out, O'.out.drew⟩, by simp [intOf]⟩ | (go_roundw; (case rel => exact ⟨13, by omega, rfl, R1'.out, RR.out, O'.out.drew⟩); (case measure => simp [intOf]))
      · have hb := bt_at s 13 (by omega)
        obtain ⟨p, q⟩ := bt_bd s 13
        have e := ptor1 s 12 13
        have c := R2.cell (i := 6) (by omega)
        rw [show pt s 13 6 = bt s 12 by simp [pt]] at c
        have f := R2.free 6
        have RR := hide ((R2.set 6 (bt s 12 + bt s 13 * 256)).congr (fun i _ => pt_odd s 6 i))
        have R1' := hide (R1.other (a := ⟨w.heap.size + 1, 6, none⟩) (by simp) (.int .u64 (bt s 12 + bt s 13 * 256)))
        have O' := hide (O.setCell (p := ⟨w.heap.size + 1, 6, none⟩) (by simp) (.int .u64 (bt s 12 + bt s 13 * 256)))
        clear R1 R2 O
        go_wp2_with fail
        go_region
        go_wp2
        first | exact ⟨⟨14, by omega, rfl, R1'.out, RR.out, O'.out.drew⟩, by simp [intOf]⟩ | (go_roundw; (case rel => exact ⟨14, by omega, rfl, R1'.out, RR.out, O'.out.drew⟩); (case measure => simp [intOf]))
      · have hb := bt_at s 14 (by omega)
        obtain ⟨p, q⟩ := bt_bd s 14
        have e := ptor0 s 14
        have c := R2.cell (i := 7) (by omega)
        rw [show pt s 14 7 = 0 by simp [pt]] at c
        have f := R2.free 7
        have RR := hide ((R2.set 7 (bt s 14)).congr (fun i _ => pt_even s 7 i))
        have R1' := hide (R1.other (a := ⟨w.heap.size + 1, 7, none⟩) (by simp) (.int .u64 (bt s 14)))
        have O' := hide (O.setCell (p := ⟨w.heap.size + 1, 7, none⟩) (by simp) (.int .u64 (bt s 14)))
        clear R1 R2 O
        go_wp2_with fail
        go_region
        go_wp2
        first | exact ⟨⟨15, by omega, rfl, R1'.out, RR.out, O'.out.drew⟩, by simp [intOf]⟩ | (go_roundw; (case rel => exact ⟨15, by omega, rfl, R1'.out, RR.out, O'.out.drew⟩); (case measure => simp [intOf]))
      · have hb := bt_at s 15 (by omega)
        obtain ⟨p, q⟩ := bt_bd s 15
        have e := ptor1 s 14 15
        have c := R2.cell (i := 7) (by omega)
        rw [show pt s 15 7 = bt s 14 by simp [pt]] at c
        have f := R2.free 7
        have RR := hide ((R2.set 7 (bt s 14 + bt s 15 * 256)).congr (fun i _ => pt_odd s 7 i))
        have R1' := hide (R1.other (a := ⟨w.heap.size + 1, 7, none⟩) (by simp) (.int .u64 (bt s 14 + bt s 15 * 256)))
        have O' := hide (O.setCell (p := ⟨w.heap.size + 1, 7, none⟩) (by simp) (.int .u64 (bt s 14 + bt s 15 * 256)))
        clear R1 R2 O
        go_wp2_with fail
        go_region
        go_wp2
        first | exact ⟨⟨16, by omega, rfl, R1'.out, RR.out, O'.out.drew⟩, by simp [intOf]⟩ | (go_roundw; (case rel => exact ⟨16, by omega, rfl, R1'.out, RR.out, O'.out.drew⟩); (case measure => simp [intOf]))
      · have hb := bt_at s 16 (by omega)
        obtain ⟨p, q⟩ := bt_bd s 16
        have e := ptor0 s 16
        have c := R2.cell (i := 8) (by omega)
        rw [show pt s 16 8 = 0 by simp [pt]] at c
        have f := R2.free 8
        have RR := hide ((R2.set 8 (bt s 16)).congr (fun i _ => pt_even s 8 i))
        have R1' := hide (R1.other (a := ⟨w.heap.size + 1, 8, none⟩) (by simp) (.int .u64 (bt s 16)))
        have O' := hide (O.setCell (p := ⟨w.heap.size + 1, 8, none⟩) (by simp) (.int .u64 (bt s 16)))
        clear R1 R2 O
        go_wp2_with fail
        go_region
        go_wp2
        first | exact ⟨⟨17, by omega, rfl, R1'.out, RR.out, O'.out.drew⟩, by simp [intOf]⟩ | (go_roundw; (case rel => exact ⟨17, by omega, rfl, R1'.out, RR.out, O'.out.drew⟩); (case measure => simp [intOf]))
      · have hb := bt_at s 17 (by omega)
        obtain ⟨p, q⟩ := bt_bd s 17
        have e := ptor1 s 16 17
        have c := R2.cell (i := 8) (by omega)
        rw [show pt s 17 8 = bt s 16 by simp [pt]] at c
        have f := R2.free 8
        have RR := hide ((R2.set 8 (bt s 16 + bt s 17 * 256)).congr (fun i _ => pt_odd s 8 i))
        have R1' := hide (R1.other (a := ⟨w.heap.size + 1, 8, none⟩) (by simp) (.int .u64 (bt s 16 + bt s 17 * 256)))
        have O' := hide (O.setCell (p := ⟨w.heap.size + 1, 8, none⟩) (by simp) (.int .u64 (bt s 16 + bt s 17 * 256)))
        clear R1 R2 O
        go_wp2_with fail
        go_region
        go_wp2
        first | exact ⟨⟨18, by omega, rfl, R1'.out, RR.out, O'.out.drew⟩, by simp [intOf]⟩ | (go_roundw; (case rel => exact ⟨18, by omega, rfl, R1'.out, RR.out, O'.out.drew⟩); (case measure => simp [intOf]))
      · have hb := bt_at s 18 (by omega)
        obtain ⟨p, q⟩ := bt_bd s 18
        have e := ptor0 s 18
        have c := R2.cell (i := 9) (by omega)
        rw [show pt s 18 9 = 0 by simp [pt]] at c
        have f := R2.free 9
        have RR := hide ((R2.set 9 (bt s 18)).congr (fun i _ => pt_even s 9 i))
        have R1' := hide (R1.other (a := ⟨w.heap.size + 1, 9, none⟩) (by simp) (.int .u64 (bt s 18)))
        have O' := hide (O.setCell (p := ⟨w.heap.size + 1, 9, none⟩) (by simp) (.int .u64 (bt s 18)))
        clear R1 R2 O
        go_wp2_with fail
        go_region
        go_wp2
        first | exact ⟨⟨19, by omega, rfl, R1'.out, RR.out, O'.out.drew⟩, by simp [intOf]⟩ | (go_roundw; (case rel => exact ⟨19, by omega, rfl, R1'.out, RR.out, O'.out.drew⟩); (case measure => simp [intOf]))
      · have hb := bt_at s 19 (by omega)
        obtain ⟨p, q⟩ := bt_bd s 19
        have e := ptor1 s 18 19
        have c := R2.cell (i := 9) (by omega)
        rw [show pt s 19 9 = bt s 18 by simp [pt]] at c
        have f := R2.free 9
        have RR := hide ((R2.set 9 (bt s 18 + bt s 19 * 256)).congr (fun i _ => pt_odd s 9 i))
        have R1' := hide (R1.other (a := ⟨w.heap.size + 1, 9, none⟩) (by simp) (.int .u64 (bt s 18 + bt s 19 * 256)))
        have O' := hide (O.setCell (p := ⟨w.heap.size + 1, 9, none⟩) (by simp) (.int .u64 (bt s 18 + bt s 19 * 256)))
        clear R1 R2 O
        go_wp2_with fail
        go_region
        go_wp2
        first | exact ⟨⟨20, by omega, rfl, R1'.out, RR.out, O'.out.drew⟩, by simp [intOf]⟩ | (go_roundw; (case rel => exact ⟨20, by omega, rfl, R1'.out, RR.out, O'.out.drew⟩); (case measure => simp [intOf]))
      · have hb := bt_at s 20 (by omega)
        obtain ⟨p, q⟩ := bt_bd s 20
        have e := ptor0 s 20
        have c := R2.cell (i := 10) (by omega)
        rw [show pt s 20 10 = 0 by simp [pt]] at c
        have f := R2.free 10
        have RR := hide ((R2.set 10 (bt s 20)).congr (fun i _ => pt_even s 10 i))
        have R1' := hide (R1.other (a := ⟨w.heap.size + 1, 10, none⟩) (by simp) (.int .u64 (bt s 20)))
        have O' := hide (O.setCell (p := ⟨w.heap.size + 1, 10, none⟩) (by simp) (.int .u64 (bt s 20)))
        clear R1 R2 O
        go_wp2_with fail
        go_region
        go_wp2
        first | exact ⟨⟨21, by omega, rfl, R1'.out, RR.out, O'.out.drew⟩, by simp [intOf]⟩ | (go_roundw; (case rel => exact ⟨21, by omega, rfl, R1'.out, RR.out, O'.out.drew⟩); (case measure => simp [intOf]))
      · have hb := bt_at s 21 (by omega)
        obtain ⟨p, q⟩ := bt_bd s 21
        have e := ptor1 s 20 21
        have c := R2.cell (i := 10) (by omega)
        rw [show pt s 21 10 = bt s 20 by simp [pt]] at c
        have f := R2.free 10
        have RR := hide ((R2.set 10 (bt s 20 + bt s 21 * 256)).congr (fun i _ => pt_odd s 10 i))
        have R1' := hide (R1.other (a := ⟨w.heap.size + 1, 10, none⟩) (by simp) (.int .u64 (bt s 20 + bt s 21 * 256)))
        have O' := hide (O.setCell (p := ⟨w.heap.size + 1, 10, none⟩) (by simp) (.int .u64 (bt s 20 + bt s 21 * 256)))
        clear R1 R2 O
        go_wp2_with fail
        go_region
        go_wp2
        first | exact ⟨⟨22, by omega, rfl, R1'.out, RR.out, O'.out.drew⟩, by simp [intOf]⟩ | (go_roundw; (case rel => exact ⟨22, by omega, rfl, R1'.out, RR.out, O'.out.drew⟩); (case measure => simp [intOf]))
      · have hb := bt_at s 22 (by omega)
        obtain ⟨p, q⟩ := bt_bd s 22
        have e := ptor0 s 22
        have c := R2.cell (i := 11) (by omega)
        rw [show pt s 22 11 = 0 by simp [pt]] at c
        have f := R2.free 11
        have RR := hide ((R2.set 11 (bt s 22)).congr (fun i _ => pt_even s 11 i))
        have R1' := hide (R1.other (a := ⟨w.heap.size + 1, 11, none⟩) (by simp) (.int .u64 (bt s 22)))
        have O' := hide (O.setCell (p := ⟨w.heap.size + 1, 11, none⟩) (by simp) (.int .u64 (bt s 22)))
        clear R1 R2 O
        go_wp2_with fail
        go_region
        go_wp2
        first | exact ⟨⟨23, by omega, rfl, R1'.out, RR.out, O'.out.drew⟩, by simp [intOf]⟩ | (go_roundw; (case rel => exact ⟨23, by omega, rfl, R1'.out, RR.out, O'.out.drew⟩); (case measure => simp [intOf]))
      · have hb := bt_at s 23 (by omega)
        obtain ⟨p, q⟩ := bt_bd s 23
        have e := ptor1 s 22 23
        have c := R2.cell (i := 11) (by omega)
        rw [show pt s 23 11 = bt s 22 by simp [pt]] at c
        have f := R2.free 11
        have RR := hide ((R2.set 11 (bt s 22 + bt s 23 * 256)).congr (fun i _ => pt_odd s 11 i))
        have R1' := hide (R1.other (a := ⟨w.heap.size + 1, 11, none⟩) (by simp) (.int .u64 (bt s 22 + bt s 23 * 256)))
        have O' := hide (O.setCell (p := ⟨w.heap.size + 1, 11, none⟩) (by simp) (.int .u64 (bt s 22 + bt s 23 * 256)))
        clear R1 R2 O
        go_wp2_with fail
        go_region
        go_wp2
        first | exact ⟨⟨24, by omega, rfl, R1'.out, RR.out, O'.out.drew⟩, by simp [intOf]⟩ | (go_roundw; (case rel => exact ⟨24, by omega, rfl, R1'.out, RR.out, O'.out.drew⟩); (case measure => simp [intOf]))
      · have hb := bt_at s 24 (by omega)
        obtain ⟨p, q⟩ := bt_bd s 24
        have e := ptor0 s 24
        have c := R2.cell (i := 12) (by omega)
        rw [show pt s 24 12 = 0 by simp [pt]] at c
        have f := R2.free 12
        have RR := hide ((R2.set 12 (bt s 24)).congr (fun i _ => pt_even s 12 i))
        have R1' := hide (R1.other (a := ⟨w.heap.size + 1, 12, none⟩) (by simp) (.int .u64 (bt s 24)))
        have O' := hide (O.setCell (p := ⟨w.heap.size + 1, 12, none⟩) (by simp) (.int .u64 (bt s 24)))
        clear R1 R2 O
        go_wp2_with fail
        go_region
        go_wp2
        first | exact ⟨⟨25, by omega, rfl, R1'.out, RR.out, O'.out.drew⟩, by simp [intOf]⟩ | (go_roundw; (case rel => exact ⟨25, by omega, rfl, R1'.out, RR.out, O'.out.drew⟩); (case measure => simp [intOf]))
      · have hb := bt_at s 25 (by omega)
        obtain ⟨p, q⟩ := bt_bd s 25
        have e := ptor1 s 24 25
        have c := R2.cell (i := 12) (by omega)
        rw [show pt s 25 12 = bt s 24 by simp [pt]] at c
        have f := R2.free 12
        have RR := hide ((R2.set 12 (bt s 24 + bt s 25 * 256)).congr (fun i _ => pt_odd s 12 i))
        have R1' := hide (R1.other (a := ⟨w.heap.size + 1, 12, none⟩) (by simp) (.int .u64 (bt s 24 + bt s 25 * 256)))
        have O' := hide (O.setCell (p := ⟨w.heap.size + 1, 12, none⟩) (by simp) (.int .u64 (bt s 24 + bt s 25 * 256)))
        clear R1 R2 O
        go_wp2_with fail
        go_region
        go_wp2
        first | exact ⟨⟨26, by omega, rfl, R1'.out, RR.out, O'.out.drew⟩, by simp [intOf]⟩ | (go_roundw; (case rel => exact ⟨26, by omega, rfl, R1'.out, RR.out, O'.out.drew⟩); (case measure => simp [intOf]))
      · have hb := bt_at s 26 (by omega)
        obtain ⟨p, q⟩ := bt_bd s 26
        have e := ptor0 s 26
        have c := R2.cell (i := 13) (by omega)
        rw [show pt s 26 13 = 0 by simp [pt]] at c
        have f := R2.free 13
        have RR := hide ((R2.set 13 (bt s 26)).congr (fun i _ => pt_even s 13 i))
        have R1' := hide (R1.other (a := ⟨w.heap.size + 1, 13, none⟩) (by simp) (.int .u64 (bt s 26)))
        have O' := hide (O.setCell (p := ⟨w.heap.size + 1, 13, none⟩) (by simp) (.int .u64 (bt s 26)))
        clear R1 R2 O
        go_wp2_with fail
        go_region
        go_wp2
        first | exact ⟨⟨27, by omega, rfl, R1'.out, RR.out, O'.out.drew⟩, by simp [intOf]⟩ | (go_roundw; (case rel => exact ⟨27, by omega, rfl, R1'.out, RR.out, O'.out.drew⟩); (case measure => simp [intOf]))
      · have hb := bt_at s 27 (by omega)
        obtain ⟨p, q⟩ := bt_bd s 27
        have e := ptor1 s 26 27
        have c := R2.cell (i := 13) (by omega)
        rw [show pt s 27 13 = bt s 26 by simp [pt]] at c
        have f := R2.free 13
        have RR := hide ((R2.set 13 (bt s 26 + bt s 27 * 256)).congr (fun i _ => pt_odd s 13 i))
        have R1' := hide (R1.other (a := ⟨w.heap.size + 1, 13, none⟩) (by simp) (.int .u64 (bt s 26 + bt s 27 * 256)))
        have O' := hide (O.setCell (p := ⟨w.heap.size + 1, 13, none⟩) (by simp) (.int .u64 (bt s 26 + bt s 27 * 256)))
        clear R1 R2 O
        go_wp2_with fail
        go_region
        go_wp2
        first | exact ⟨⟨28, by omega, rfl, R1'.out, RR.out, O'.out.drew⟩, by simp [intOf]⟩ | (go_roundw; (case rel => exact ⟨28, by omega, rfl, R1'.out, RR.out, O'.out.drew⟩); (case measure => simp [intOf]))
      · have hb := bt_at s 28 (by omega)
        obtain ⟨p, q⟩ := bt_bd s 28
        have e := ptor0 s 28
        have c := R2.cell (i := 14) (by omega)
        rw [show pt s 28 14 = 0 by simp [pt]] at c
        have f := R2.free 14
        have RR := hide ((R2.set 14 (bt s 28)).congr (fun i _ => pt_even s 14 i))
        have R1' := hide (R1.other (a := ⟨w.heap.size + 1, 14, none⟩) (by simp) (.int .u64 (bt s 28)))
        have O' := hide (O.setCell (p := ⟨w.heap.size + 1, 14, none⟩) (by simp) (.int .u64 (bt s 28)))
        clear R1 R2 O
        go_wp2_with fail
        go_region
        go_wp2
        first | exact ⟨⟨29, by omega, rfl, R1'.out, RR.out, O'.out.drew⟩, by simp [intOf]⟩ | (go_roundw; (case rel => exact ⟨29, by omega, rfl, R1'.out, RR.out, O'.out.drew⟩); (case measure => simp [intOf]))
      · have hb := bt_at s 29 (by omega)
        obtain ⟨p, q⟩ := bt_bd s 29
        have e := ptor1 s 28 29
        have c := R2.cell (i := 14) (by omega)
        rw [show pt s 29 14 = bt s 28 by simp [pt]] at c
        have f := R2.free 14
        have RR := hide ((R2.set 14 (bt s 28 + bt s 29 * 256)).congr (fun i _ => pt_odd s 14 i))
        have R1' := hide (R1.other (a := ⟨w.heap.size + 1, 14, none⟩) (by simp) (.int .u64 (bt s 28 + bt s 29 * 256)))
        have O' := hide (O.setCell (p := ⟨w.heap.size + 1, 14, none⟩) (by simp) (.int .u64 (bt s 28 + bt s 29 * 256)))
        clear R1 R2 O
        go_wp2_with fail
        go_region
        go_wp2
        first | exact ⟨⟨30, by omega, rfl, R1'.out, RR.out, O'.out.drew⟩, by simp [intOf]⟩ | (go_roundw; (case rel => exact ⟨30, by omega, rfl, R1'.out, RR.out, O'.out.drew⟩); (case measure => simp [intOf]))
      · have hb := bt_at s 30 (by omega)
        obtain ⟨p, q⟩ := bt_bd s 30
        have e := ptor0 s 30
        have c := R2.cell (i := 15) (by omega)
        rw [show pt s 30 15 = 0 by simp [pt]] at c
        have f := R2.free 15
        have RR := hide ((R2.set 15 (bt s 30)).congr (fun i _ => pt_even s 15 i))
        have R1' := hide (R1.other (a := ⟨w.heap.size + 1, 15, none⟩) (by simp) (.int .u64 (bt s 30)))
        have O' := hide (O.setCell (p := ⟨w.heap.size + 1, 15, none⟩) (by simp) (.int .u64 (bt s 30)))
        clear R1 R2 O
        go_wp2_with fail
        go_region
        go_wp2
        first | exact ⟨⟨31, by omega, rfl, R1'.out, RR.out, O'.out.drew⟩, by simp [intOf]⟩ | (go_roundw; (case rel => exact ⟨31, by omega, rfl, R1'.out, RR.out, O'.out.drew⟩); (case measure => simp [intOf]))
      · have hb := bt_at s 31 (by omega)
        obtain ⟨p, q⟩ := bt_bd s 31
        have e := ptor1 s 30 31
        have c := R2.cell (i := 15) (by omega)
        rw [show pt s 31 15 = bt s 30 by simp [pt]] at c
        have f := R2.free 15
        have RR := hide ((R2.set 15 (bt s 30 + bt s 31 * 256)).congr (fun i _ => pt_odd s 15 i))
        have R1' := hide (R1.other (a := ⟨w.heap.size + 1, 15, none⟩) (by simp) (.int .u64 (bt s 30 + bt s 31 * 256)))
        have O' := hide (O.setCell (p := ⟨w.heap.size + 1, 15, none⟩) (by simp) (.int .u64 (bt s 30 + bt s 31 * 256)))
        clear R1 R2 O
        go_wp2_with fail
        go_region
        go_wp2
        first | exact ⟨⟨32, by omega, rfl, R1'.out, RR.out, O'.out.drew⟩, by simp [intOf]⟩ | (go_roundw; (case rel => exact ⟨32, by omega, rfl, R1'.out, RR.out, O'.out.drew⟩); (case measure => simp [intOf]))
    · have e : k = 32 := by omega
      subst e
      have RR := hide (R1.setAll (pt s 32))
      have OO := hide (below_setCells (g := w.heap.size) (Nat.le_refl _) (arr 16 (pt s 32)).toList 0 O)
      go_wp2_with (first | (refine wpList_load_row rfl 36 _ rfl (w.heap.size + 1) rfl 36 (arr 16 (pt s 32)) (0, 0) _ R2 Tryz.underlying36 rfl (info36 _) ?_) | (refine wpList_store_mid rfl 36 _ _ rfl w.heap.size 0 (arr 16 (pt s 32)) rfl rfl (by rw [arr_size]; exact R1.there) (info36 _) (arr_one _ _) ?_))
      exact bodyPost_ret (v := .agg (arr 16 (pt s 32))) (results_cell_row Tryz.results14 _ _ w.heap.size 36 (arr 16 (pt s 32)) (0, 0) _ rfl RR.out Tryz.underlying36 rfl (info36 _)) rfl ⟨rfl, OO.out⟩

end Go.Proofs.YtmhfmhmpoobmlaaGreatDoor

/- When two arrays of words are the same. -/
namespace Go.Proofs.YtmhfmhmpoobmlaaGreatDoor
open Go.RowKit

/-- The words from k on, m of them, are the same. -/
def eqw (f g : Nat → Int) : Nat → Nat → Bool
  | _, 0 => true
  | k, m + 1 => (f k == g k) && eqw f g (k + 1) m

theorem run_eqs_from (d n : Nat) (f g : Nat → Int) (w : World) : ∀ (m k : Nat), k + m ≤ n →
    Sem.run Tryz.prog (forIn (List.range' k m 1) ((none, ()) : Option Bool × Unit) fun i _ => do
      let a ← part 34 (arr n f) i
      let b ← part 34 (arr n g) i
      let r ← Op.equalIn (d + 1) 34 a b
      if (!r) = true then pure (ForInStep.done (some false, ())) else pure (ForInStep.yield (none, ()))) w = .ok (if eqw f g k m = true then none else some false, ()) w := by
  intro m
  induction m with
  | zero => intro k _; simp [eqw, Sem.run_pure]
  | succ m ih =>
    intro k hk
    have hp : ∀ h : Nat → Int, (part 34 (arr n h) k).run Tryz.prog w = .ok (.int .u64 (h k)) w := fun h => by
      have ha : (isAgg 34).run Tryz.prog w = .ok false w := by kernel_rfl
      simp [part, Sem.run_bind, ha, arr_get n h k (by omega)]
    simp only [List.range'_succ, List.forIn_cons, Sem.run_bind, hp, Result.andThen_ok, run_equalIn_int w d 34 .u64 .u64 (f k) (g k) Tryz.underlying34]
    cases hc : (f k == g k)
    · simp [eqw, hc, Sem.run_pure]
    · simp only [Bool.not_true, Bool.false_eq_true, if_false, Sem.run_pure, Result.andThen_ok, eqw, hc, Bool.true_and]
      exact ih (k + 1) (by omega)

theorem run_equalIn_words (d : Nat) (t : TypeId) (n : Nat) (f g : Nat → Int) (w : World) (ht : Tryz.prog.underlying t = some (.array n 34)) :
    (Op.equalIn (d + 1 + 1) t (.agg (arr n f)) (.agg (arr n g))).run Tryz.prog w = .ok (eqw f g 0 n) w := by
  have hz : (sizeOf 34).run Tryz.prog w = .ok 1 w := by kernel_rfl
  rw [Op.equalIn]
  simp only [Sem.run_bind, run_underlying ht, Result.andThen_ok, hz, Nat.mul_one]
  rw [Std.Legacy.Range.forIn_eq_forIn_range']
  have e : ([:n] : Std.Legacy.Range).size = n := by simp [Std.Legacy.Range.size]
  rw [e]
  have h := run_eqs_from d n f g w n 0 (by omega)
  rw [h]
  cases hc : eqw f g 0 n <;> simp [Sem.run_pure]

theorem run_eql_words (t : TypeId) (n : Nat) (f g : Nat → Int) (w : World) (ht : Tryz.prog.underlying t = some (.array n 34)) :
    (binOp .eql t (.agg (arr n f)) (.agg (arr n g))).run Tryz.prog w = .ok (.bool (eqw f g 0 n)) w := by
  rw [run_eql_struct, run_equalIn_words 9998 t n f g w ht]
  rfl

def E5.fn (x : E5) (i : Nat) : Int := [x.a, x.b, x.c, x.d, x.e].getD i 0
/-- Part by part the same. -/
def eq5 (x y : E5) : Bool := eqw x.fn y.fn 0 5

theorem run_eql_e5 (x y : E5) (w : World) : (binOp .eql 56 x.v y.v).run Tryz.prog w = .ok (.bool (eq5 x y)) w :=
  run_eql_words 56 5 x.fn y.fn w Tryz.underlying56

theorem eq5_iff (x y : E5) : eq5 x y = true ↔ x = y := by
  obtain ⟨a, b, c, d, e⟩ := x
  obtain ⟨f, g, h, i, j⟩ := y
  simp only [eq5, eqw, E5.fn, E5.mk.injEq]
  simp

end Go.Proofs.YtmhfmhmpoobmlaaGreatDoor

/- The contracts of Same and Odd. -/
namespace Go.Proofs.YtmhfmhmpoobmlaaGreatDoor
open Go.RowKit

theorem oddR {y : E5} {n : Int} (h : y.Low) (e : y.n = n) : (bits BinOp.and IntKind.u64 y.a 1 == 1) = (n % 2 == 1) := by
  obtain ⟨a0, a1, b0, b1, c0, c1, d0, d1, e0, e1⟩ := h
  rw [u64_and y.a 1 a0 (by omega) (by decide) (by decide), show (1 : Int).toNat = 1 from rfl, nat_mask1, ← e]
  have : ((y.a.toNat % 2 : Nat) : Int) = y.n % 2 := by simp only [E5.n]; omega
  rw [this]

set_option maxRecDepth 100000 in
set_option maxHeartbeats 1000000 in
theorem odd_any (x : E5) (w : World) (hx : x.Ok) :
    Calls Tryz.prog 66 #[x.v] w fun r w' => r = .returned (.bool (x.n % Pm % 2 == 1)) ∧ Below w.heap.size w w' := by
  have HN := hide (leastF_n hx)
  go_enter Tryz.func66, Tryz.ntmps66
  go_wp2_with fail
  refine (least_any x _ hx).mono ?_
  rintro _ w1 ⟨rfl, hb⟩
  have hl := leastF_low x
  generalize leastF x = y at *
  have i0 : ∀ w, (Instr.index 56 (.agg #[.int .u64 y.a, .int .u64 y.b, .int .u64 y.c, .int .u64 y.d, .int .u64 y.e]) (.int .i64 0)).run Tryz.prog w = .ok (.int .u64 y.a) w := fun _ => by kernel_rfl
  have H3 := hide (below1 hb)
  clear hb
  go_wp2
  go_ret
  exact ⟨by rw [← oddR hl HN.out]; rfl, H3.out⟩

theorem low_inj {x y : E5} (hx : x.Low) (hy : y.Low) (h : x.n = y.n) : x = y := by
  obtain ⟨a, b, c, d, e⟩ := x
  obtain ⟨f, g, i, j, k⟩ := y
  obtain ⟨a0, a1, b0, b1, c0, c1, d0, d1, e0, e1⟩ := hx
  obtain ⟨f0, f1, g0, g1, h0, h1, i0, i1, j0, j1⟩ := hy
  simp only [E5.n] at *
  have h1 : a = f := by omega
  have h2 : b = g := by omega
  have h3 : c = i := by omega
  have h4 : d = j := by omega
  have h5 : e = k := by omega
  rw [h1, h2, h3, h4, h5]

theorem sameR {x y : E5} (hx : x.Ok) (hy : y.Ok) : eq5 (leastF x) (leastF y) = (x.n % Pm == y.n % Pm) := by
  rw [Bool.eq_iff_iff, eq5_iff, beq_iff_eq, ← leastF_n hx, ← leastF_n hy]
  exact ⟨fun h => by rw [h], fun h => low_inj (leastF_low x) (leastF_low y) h⟩

set_option maxRecDepth 100000 in
set_option maxHeartbeats 1000000 in
theorem same_any (x y : E5) (w : World) (hx : x.Ok) (hy : y.Ok) :
    Calls Tryz.prog 85 #[x.v, y.v] w fun r w' => r = .returned (.bool (x.n % Pm == y.n % Pm)) ∧ Below w.heap.size w w' := by
  have hg : Tryz.prog.eqGuardType Tryz.prog.depth 56 = false := by kernel_rfl
  have he := run_eql_e5 (leastF x) (leastF y)
  go_enter Tryz.func85, Tryz.ntmps85
  go_wp2_with fail
  have A := (EAt.new w x 58).alloc (.cells #[.int .u64 y.a, .int .u64 y.b, .int .u64 y.c, .int .u64 y.d, .int .u64 y.e] 58)
  have B := EAt.new (w.alloc (.cells #[.int .u64 x.a, .int .u64 x.b, .int .u64 x.c, .int .u64 x.d, .int .u64 x.e] 58)) y 58
  rw [World.size_alloc] at B
  have O := hide (((Below.refl w.heap.size w).alloc (Nat.le_refl _) (.cells #[.int .u64 x.a, .int .u64 x.b, .int .u64 x.c, .int .u64 x.d, .int .u64 x.e] 58)).alloc (by simp) (.cells #[.int .u64 y.a, .int .u64 y.b, .int .u64 y.c, .int .u64 y.d, .int .u64 y.e] 58))
  generalize (w.alloc (.cells #[.int .u64 x.a, .int .u64 x.b, .int .u64 x.c, .int .u64 x.d, .int .u64 x.e] 58)).alloc (.cells #[.int .u64 y.a, .int .u64 y.b, .int .u64 y.c, .int .u64 y.d, .int .u64 y.e] 58) = W at A B O ⊢
  have hne := KW.some W
  have c0 := A.k0
  have d0 := B.k0
  have c1 := A.k1
  have d1 := B.k1
  have c2 := A.k2
  have d2 := B.k2
  have c3 := A.k3
  have d3 := B.k3
  have c4 := A.k4
  have d4 := B.k4
  clear A B
  refine wp_region_keep (by kernel_rfl) (by kernel_rfl) ?_
  repeat (go_big_quiet_step ((go_at_call 123; exact keep_of (least_any _ _ (by first | exact hx | exact hy)))))
  refine wpQuiet_nil ?_
  intro s
  have hw := O.out.trans (s.keep.mono O.out.size)
  have HR := hide (sameR hx hy)
  clear he hg c0 c1 c2 c3 c4 d0 d1 d2 d3 d4 O hne
  go_wp2
  go_ret
  exact ⟨by rw [← HR.out]; rfl, hw⟩

end Go.Proofs.YtmhfmhmpoobmlaaGreatDoor

/- When an answer is the document's: the bytes are the same; and the contract of Canonical. -/
namespace Go.Proofs.YtmhfmhmpoobmlaaGreatDoor
open Go.RowKit

set_option maxHeartbeats 2000000 in
theorem digs4 {a b c d : Int} (ha : 0 ≤ a ∧ a < 65536) (hb : 0 ≤ b ∧ b < 65536) (hc : 0 ≤ c ∧ c < 65536) (_hd : 0 ≤ d ∧ d < 65536) :
    digs (a + 65536 * b + 4294967296 * c + 281474976710656 * d) = [a % 256, a / 256 % 256, b % 256, b / 256 % 256, c % 256, c / 256 % 256, d % 256, d / 256 % 256] := by
  unfold digs
  have h1 : (a + 65536 * b + 4294967296 * c + 281474976710656 * d) % 256 = a % 256 := by omega
  have h2 : (a + 65536 * b + 4294967296 * c + 281474976710656 * d) / 256 % 256 = a / 256 % 256 := by omega
  have h3 : (a + 65536 * b + 4294967296 * c + 281474976710656 * d) / 65536 % 256 = b % 256 := by omega
  have h4 : (a + 65536 * b + 4294967296 * c + 281474976710656 * d) / 16777216 % 256 = b / 256 % 256 := by omega
  have h5 : (a + 65536 * b + 4294967296 * c + 281474976710656 * d) / 4294967296 % 256 = c % 256 := by omega
  have h6 : (a + 65536 * b + 4294967296 * c + 281474976710656 * d) / 1099511627776 % 256 = c / 256 % 256 := by omega
  have h7 : (a + 65536 * b + 4294967296 * c + 281474976710656 * d) / 281474976710656 % 256 = d % 256 := by omega
  have h8 : (a + 65536 * b + 4294967296 * c + 281474976710656 * d) / 72057594037927936 % 256 = d / 256 % 256 := by omega
  rw [h1, h2, h3, h4, h5, h6, h7, h8]

theorem S16 (f : Nat → Int) : S f 16 = f 0 + f 1 * 65536 + f 2 * 4294967296 + f 3 * 281474976710656 + f 4 * 18446744073709551616 + f 5 * 1208925819614629174706176 + f 6 * 79228162514264337593543950336 + f 7 * 5192296858534827628530496329220096 + f 8 * 340282366920938463463374607431768211456 + f 9 * 22300745198530623141535718272648361505980416 + f 10 * 1461501637330902918203684832716283019655932542976 + f 11 * 95780971304118053647396689196894323976171195136475136 + f 12 * 6277101735386680763835789423207666416102355444464034512896 + f 13 * 411376139330301510538742295639337626245683966408394965837152256 + f 14 * 26959946667150639794667015087019630673637144422540572481103610249216 + f 15 * 1766847064778384329583297500742918515827483896875618958121606201292619776 := by
  simp [S]

set_option maxHeartbeats 2000000 in
theorem lebytes_S {f : Nat → Int} (hf : Dig f 16) : lebytes (S f 16) = bs (rb f 32) := by
  have h0 := hf 0 (by omega)
  have h1 := hf 1 (by omega)
  have h2 := hf 2 (by omega)
  have h3 := hf 3 (by omega)
  have h4 := hf 4 (by omega)
  have h5 := hf 5 (by omega)
  have h6 := hf 6 (by omega)
  have h7 := hf 7 (by omega)
  have h8 := hf 8 (by omega)
  have h9 := hf 9 (by omega)
  have h10 := hf 10 (by omega)
  have h11 := hf 11 (by omega)
  have h12 := hf 12 (by omega)
  have h13 := hf 13 (by omega)
  have h14 := hf 14 (by omega)
  have h15 := hf 15 (by omega)
  have e := S16 f
  have w0 : S f 16 % 18446744073709551616 = f 0 + 65536 * f 1 + 4294967296 * f 2 + 281474976710656 * f 3 := by rw [e]; omega
  have w1 : S f 16 / 18446744073709551616 % 18446744073709551616 = f 4 + 65536 * f 5 + 4294967296 * f 6 + 281474976710656 * f 7 := by rw [e]; omega
  have w2 : S f 16 / 340282366920938463463374607431768211456 % 18446744073709551616 = f 8 + 65536 * f 9 + 4294967296 * f 10 + 281474976710656 * f 11 := by rw [e]; omega
  have w3 : S f 16 / 6277101735386680763835789423207666416102355444464034512896 % 18446744073709551616 = f 12 + 65536 * f 13 + 4294967296 * f 14 + 281474976710656 * f 15 := by rw [e]; omega
  unfold lebytes
  rw [w0, w1, w2, w3, digs4 h0 h1 h2 h3, digs4 h4 h5 h6 h7, digs4 h8 h9 h10 h11, digs4 h12 h13 h14 h15]
  congr 1
  simp [rb, by16, List.range, List.range.loop]

end Go.Proofs.YtmhfmhmpoobmlaaGreatDoor

/- The contracts of the law's of; when an answer is the document's. -/
namespace Go.Proofs.YtmhfmhmpoobmlaaGreatDoor
open Go.RowKit

theorem Pm_pos : (0 : Int) < Pm := by decide
end Go.Proofs.YtmhfmhmpoobmlaaGreatDoor

/- Bytes of a string in memory of their own; the contracts of both Clamp. -/
namespace Go.Proofs.YtmhfmhmpoobmlaaGreatDoor
open Go.RowKit

theorem bs_size (l : List Int) : (bs l).size = l.length := by simp [bs, ByteArray.size]
theorem bt_bs (l : List Int) (i : Nat) (x : Int) (hl : l[i]? = some x) (h0 : 0 ≤ x) (h1 : x < 256) : bt (bs l) i = x := by
  unfold bt bs
  simp only [List.getElem?_toArray, List.getElem?_map, hl, Option.map_some, Option.getD_some]
  simp only [UInt8.toNat_ofNat']
  omega

/-- Block g holds the bytes f 0 .. f (n - 1), and may be written. -/
structure BC (W : World) (g : Nat) (f : Nat → Int) (n : Nat) : Prop where
  lt : g < W.heap.size
  c : ∀ i, i < n → W.cell? ⟨g, i, none⟩ = some (.int .u8 (f i))
  fz : ∀ i, i < n → W.frozen? ⟨g, i, none⟩ = false

set_option maxRecDepth 100000 in
theorem conv_back {W : World} {g n : Nat} {f : Nat → Int} (h : BC W g f n) (cap : Nat) (hf : ∀ i, i < n → 0 ≤ f i ∧ f i < 256) :
    (convert 32 9 (.slice (some ⟨g, 0, none⟩) n cap)).run Tryz.prog W = .ok (.string (bs ((List.range n).map f))) W := by
  have hl : ((List.range n).map fun i => UInt8.ofNat (f i).toNat).length = n := by simp
  have h2 := run_convert_bytes_back (P := Tryz.prog) W 32 9 5 ⟨g, 0, none⟩ cap ((List.range n).map fun i => UInt8.ofNat (f i).toNat) Tryz.underlying32 Tryz.underlying5 Tryz.underlying9 (fun j hj => by
    rw [hl] at hj
    have hadd : (⟨g, 0, none⟩ : Addr).add j = ⟨g, j, none⟩ := by unfold Addr.add; split <;> simp_all
    rw [hadd, h.c j hj]
    have := hf j hj
    simp
    omega)
  rw [hl] at h2
  rw [h2]
  unfold bs
  congr 3
  simp [List.map_map]

end Go.Proofs.YtmhfmhmpoobmlaaGreatDoor

/- Bytes in memory, for a walk that a program types. -/
namespace Go.Proofs.YtmhfmhmpoobmlaaGreatDoor
open Go.RowKit

/-- The block holds these n bytes, and they may be written. -/
structure ByZ (Z : Obj) (n : Nat) (f : Nat → Int) : Prop where
  ex : ∃ cs T fr, Z = .cells cs T fr ∧ (∀ i, i < n → cs[i]? = some (.int .u8 (f i))) ∧ ∀ i, i < n → (decide (fr.1 ≤ i) && decide (i < fr.2)) = false

theorem ByZ.bc {Z : Obj} {n : Nat} {f : Nat → Int} (h : ByZ Z n f) {W : World} {g : Nat} (hz : W.heap[g]? = some Z) : BC W g f n := by
  obtain ⟨cs, T, fr, rfl, h1, h2⟩ := h.ex
  refine ⟨(Array.getElem?_eq_some_iff.1 hz).1, fun i hi => ?_, fun i hi => ?_⟩
  · unfold World.cell?
    rw [hz]
    simpa using h1 i hi
  · unfold World.frozen?
    rw [hz]
    exact h2 i hi

theorem ByZ.congr {Z : Obj} {n : Nat} {f f' : Nat → Int} (h : ByZ Z n f) (e : ∀ i, i < n → f i = f' i) : ByZ Z n f' := by
  obtain ⟨cs, T, fr, rfl, h1, h2⟩ := h.ex
  exact ⟨cs, T, fr, rfl, fun i hi => by rw [h1 i hi, e i hi], h2⟩

theorem ByZ.set {Z : Obj} {n : Nat} {f : Nat → Int} (h : ByZ Z n f) {k : Nat} (hk : k < n) (v : Int) {W : World} {g : Nat} (hz : W.heap[g]? = some Z) : ∃ Z', (W.setCell ⟨g, k, none⟩ (.int .u8 v)).heap[g]? = some Z' ∧ ByZ Z' n (upd f k v) := by
  obtain ⟨cs, T, fr, rfl, h1, h2⟩ := h.ex
  refine ⟨.cells (cs.setIfInBounds k (.int .u8 v)) T fr, ?_, ⟨_, T, fr, rfl, fun i hi => ?_, h2⟩⟩
  · simp [World.setCell, Array.getElem?_modify, hz]
  · have hs := (Array.getElem?_eq_some_iff.1 (h1 k hk)).1
    rw [Array.getElem?_setIfInBounds]
    by_cases e : k = i
    · subst e
      simp [hs, upd]
    · rw [if_neg e, h1 i hi]
      simp [upd, Ne.symm e]

/-- n bytes, all written over. -/
theorem ByZ.setAll {Z : Obj} {n : Nat} {f : Nat → Int} (h : ByZ Z n f) (f' : Nat → Int) {W : World} {g : Nat} (hz : W.heap[g]? = some Z) (l : List Value) (hl : l.length = n) (hv : ∀ i, i < n → l[i]? = some (.int .u8 (f' i))) : ∃ Z', (W.setCells g 0 l).heap[g]? = some Z' ∧ ByZ Z' n f' := by
  have key : ∀ (l : List Value) (o : Nat) (W : World) (Z : Obj) (f : Nat → Int) (fn : Nat → Int), W.heap[g]? = some Z → ByZ Z n f → o + l.length ≤ n → (∀ i, i < l.length → l[i]? = some (.int .u8 (fn i))) → ∃ Z', (W.setCells g o l).heap[g]? = some Z' ∧ ByZ Z' n (fun i => if o ≤ i ∧ i < o + l.length then fn (i - o) else f i) := by
    intro l
    induction l with
    | nil =>
      intro o W Z f fn hz h _ _
      exact ⟨Z, hz, h.congr fun i _ => by rw [if_neg (by simp only [List.length_nil]; omega)]⟩
    | cons v l ih =>
      intro o W Z f fn hz h ho hv
      have h0 := hv 0 (by simp)
      simp only [List.getElem?_cons_zero, Option.some.injEq] at h0
      subst h0
      simp only [List.length_cons] at ho
      obtain ⟨Z1, hz1, hb1⟩ := h.set (k := o) (by omega) (fn 0) hz
      obtain ⟨Z2, hz2, hb2⟩ := ih (o + 1) _ Z1 _ (fun i => fn (i + 1)) hz1 hb1 (by omega) (fun i hi => by
        have := hv (i + 1) (by simp; omega)
        simpa using this)
      refine ⟨Z2, hz2, hb2.congr fun i _ => ?_⟩
      simp only [List.length_cons]
      by_cases e1 : o + 1 ≤ i ∧ i < o + 1 + l.length
      · rw [if_pos e1, if_pos (by omega), show i - (o + 1) + 1 = i - o by omega]
      · rw [if_neg e1]
        by_cases e2 : i = o
        · subst e2
          rw [if_pos (by omega), show i - i = 0 by omega]
          simp [upd]
        · rw [if_neg (by omega)]
          simp [upd, e2]
  obtain ⟨Z', h1, h2⟩ := key l 0 W Z f f' hz h (by omega) (fun i hi => hv i (by omega))
  exact ⟨Z', h1, h2.congr fun i hi => by rw [if_pos (by omega), Nat.sub_zero]⟩

/-- n bytes that are 0. -/
def bz (n : Nat) : Array Value := ((List.range n).map fun _ => Value.int .u8 0).toArray
theorem ByZ.zero (n : Nat) (T : TypeId) : ByZ (.cells (bz n) T) n (fun _ => 0) :=
  ⟨bz n, T, (0, 0), rfl, fun i hi => by simp [bz, hi], fun i _ => by simp⟩

section
variable {P : Program} {ops : Array Oper} {rest : List Oper} {o : Oper} {a : Act} {w w0 : World} {L : List Blk} {Q : Exit → Act → World → Prop}

theorem run_byte {w : World} {g k : Nat} {v : Value} (hc : w.cell? ⟨g, k, none⟩ = some v) (ty : TypeId) (hag : ∀ w, (isAgg ty).run P w = .ok false w) : (Instr.loadAt ty (.pointer (some ⟨g, k, none⟩))).run P w = .ok v w := by
  simp [Instr.loadAt, Instr.sureAddr, loadVar, hag, hc]

theorem pl_loadb (M : Mem w0 L w) (hw : Region.wanted o (yielded ops a.tmps) = true) (d : Option Tmp) (hd : o.dst = d) (ty : TypeId) (x : Operand) (ho : o.op = .load ty x) (i g k : Nat) (hx : a.eval x = .pointer (some ⟨g, k, none⟩)) (Z : Obj) (hi : L[i]? = some ⟨g, Z⟩) (n : Nat) (f : Nat → Int) (hz : ByZ Z n f) (hk : k < n) (hag : ∀ w, (isAgg ty).run P w = .ok false w)
    (h : PL P ops Q rest (a.put d (.int .u8 (f k))) w) : PL P ops Q (o :: rest) a w := by
  refine pl_to hw d hd (.int .u8 (f k)) w ?_ h
  have hc := run_byte (P := P) ((hz.bc (M.get i hi)).c k hk) ty hag
  unfold execOp
  simp only [ho, hx, Sem.run_bind, hc, Result.andThen_ok, Sem.run_pure]

theorem pl_storeb (M : Mem w0 L w) (hw : Region.wanted o (yielded ops a.tmps) = true) (hd : o.dst = none) (ty : TypeId) (x y : Operand) (ho : o.op = .store ty x y) (i g k : Nat) (hx : a.eval x = .pointer (some ⟨g, k, none⟩)) (v : Int) (hy : a.eval y = .int .u8 v) (Z : Obj) (hi : L[i]? = some ⟨g, Z⟩) (n : Nat) (f : Nat → Int) (hz : ByZ Z n f) (hk : k < n) (hs : (P.info? ty).map (·.size) = some 1)
    (h : ∀ Z' w', ByZ Z' n (upd f k v) → Mem w0 (L.set i ⟨g, Z'⟩) w' → PL P ops Q rest a w') : PL P ops Q (o :: rest) a w := by
  have hB := hz.bc (M.get i hi)
  obtain ⟨Z', h1, h2⟩ := hz.set hk v (M.get i hi)
  have h3 := h Z' _ h2 (M.put i ⟨g, Z⟩ hi Z' h1 (fun j hj => Below.heap_setCell _ _ _ _ hj) (fun B u hB hu => hu.setCell hB _))
  have hrun : (Instr.storeAt ty (.pointer (some ⟨g, k, none⟩)) (.int .u8 v)).run P w = .ok () (w.setCell ⟨g, k, none⟩ (.int .u8 v)) := by
    cases hq : P.info? ty with
    | none => simp [hq] at hs
    | some t =>
      have ht : t.size = 1 := by simpa [hq] using hs
      have hc := run_storeCells_cells (P := P) g k [.int .u8 v] 0 w (by intro j hj; simp at hj; subst hj; simp [hB.c k hk]) (by intro j hj; simp at hj; subst hj; simpa using hB.fz k hk) (by simp [Value.oneCell'])
      simp only [Nat.add_zero, World.setCells] at hc
      simp [Instr.storeAt, Instr.sureAddr, storeVar, sizeOf, typeInfo, hq, ht, Value.cells, hc]
  refine ⟨Go.BigFrame.wpList_want hw fun K hK => ?_⟩
  unfold Oper.wp execOp
  simp only [ho, hx, hy, Sem.run_bind, hrun, Result.andThen_ok, Sem.run_pure]
  show K (a.put o.dst undef) _
  rw [hd]
  exact hK _ _ h3.out

/-- The bytes of a string, copied into n bytes. -/
theorem run_copy_str (w : World) (dT sT ty elem : TypeId) (g n cap : Nat) (s : ByteArray) (f : Nat → Int) (hB : BC w g f n) (hs : s.size = n)
    (hu : P.underlying dT = some (.slice elem)) (hi : (P.info? elem).map (·.size) = some 1) :
    (Builtin.copy_ #[dT, sT] ty #[.slice (some ⟨g, 0, none⟩) n cap, .string s]).run P w = .ok (goInt n) (w.setCells g 0 ((List.range n).map fun i => Value.int .u8 (bt s i))) := by
  have e : ((s.extract 0 n).data.map fun b => Value.int .u8 b.toNat).toList = (List.range n).map fun i => Value.int .u8 (bt s i) := by
    apply List.ext_getElem?
    intro i
    have hsd : s.data.size = n := hs
    by_cases hi : i < n
    · simp only [Array.toList_map, List.getElem?_map, List.getElem?_range hi, Option.map_some]
      have : (s.extract 0 n).data.toList[i]? = some (s.data[i]'(by omega)) := by
        simp [ByteArray.data_extract, hi, hsd]
      rw [this]
      unfold bt
      rw [Array.getElem?_eq_getElem (by omega)]
      rfl
    · rw [List.getElem?_eq_none (by simp [ByteArray.data_extract]; omega), List.getElem?_eq_none (by simp; omega)]
  have hst := run_storeCells_cells (P := P) g 0 ((List.range n).map fun i => Value.int .u8 (bt s i)) 0 w (by intro j hj; simp at hj; simp [hB.c j hj]) (by intro j hj; simp at hj; simpa using hB.fz j hj) (by simp [Value.oneCell'])
  have e3 : List.take n (List.map (fun b => Value.int IntKind.u8 b.toNat) s.data.toList) = (List.range n).map fun i => Value.int .u8 (bt s i) := by
    rw [← e]
    simp [ByteArray.data_extract]
  cases hq : P.info? elem with
  | none => simp [hq] at hi
  | some t =>
    simp only [Nat.add_zero] at hst
    simp [Builtin.copy_, run_underlying hu, Builtin.lenOf, Builtin.firstCells, sizeOf, typeInfo, hq, hs, e3, hst]

theorem pl_copy (M : Mem w0 L w) (hw : Region.wanted o (yielded ops a.tmps) = true) (d : Option Tmp) (hd : o.dst = d) (dT sT ty elem : TypeId) (i g n cap : Nat) (s : ByteArray) (hs : s.size = n) (Z : Obj) (hi : L[i]? = some ⟨g, Z⟩) (f : Nat → Int) (hz : ByZ Z n f)
    (hu : P.underlying dT = some (.slice elem)) (hz1 : (P.info? elem).map (·.size) = some 1)
    (hrun : ∀ w, (execOp a.eval o).run P w = (do pure (Next.value (← Builtin.copy_ #[dT, sT] ty #[.slice (some ⟨g, 0, none⟩) n cap, .string s]))).run P w)
    (h : ∀ Z' w', ByZ Z' n (bt s) → Mem w0 (L.set i ⟨g, Z'⟩) w' → PL P ops Q rest (a.put d (goInt n)) w') : PL P ops Q (o :: rest) a w := by
  have hB := hz.bc (M.get i hi)
  obtain ⟨Z', h1, h2⟩ := hz.setAll (bt s) (M.get i hi) ((List.range n).map fun i => Value.int .u8 (bt s i)) (by simp) (fun j hj => by simp [hj])
  refine pl_to hw d hd (goInt n) _ ?_ (h Z' _ h2 (M.put i ⟨g, Z⟩ hi Z' h1 (fun j hj => heap_setCells_other g j hj _ _ _) (fun B u hB hu => below_setCells hB _ 0 hu)))
  rw [hrun]
  simp only [Sem.run_bind, run_copy_str w dT sT ty elem g n cap s f hB hs hu hz1, Result.andThen_ok, Sem.run_pure]
end

end Go.Proofs.YtmhfmhmpoobmlaaGreatDoor
