/- Part 6 of the walks and facts. -/
import Derived.Test.YtffimigpbcilbaaGreatDoorCpDef
import Derived.Test.YtffimigpbcilbaaGreatDoorCp5
import Derived.Laws.Bits64b
import Derived.Laws.Externs
import Derived.Laws.StructEq
import Derived.Lib.Mul64
set_option maxHeartbeats 16000000
set_option maxRecDepth 100000
namespace Go.Proofs.YtffimigpbcilbaaGreatDoor.Mon
open Go.RowKit
section
variable {P : Program} {ops : Array Oper} {md : Region.Mode} {W : World} {n : Nat}
def keepOp (P : Program) (o : Oper) (a : Act) (W : World) (K : Act → Prop) : Prop := ∃ v, (∀ s : KW W, keepAt P o a s.w v) ∧ K (a.put o.dst v)
def wpK (P : Program) (ops : Array Oper) (W : World) (Q : Act → Prop) : List Oper → Act → Prop
 | [], a => Q a
 | o :: rest, a => if Region.wanted o (yielded ops a.tmps) then keepOp P o a W (wpK P ops W Q rest) else wpK P ops W Q rest (a.put o.dst undef)
theorem wpK_nil {Q : Act → Prop} {a : Act} (h : Q a) : wpK P ops W Q [] a := h
theorem wpK_step {Q : Act → Prop} {a : Act} {o : Oper} {rest : List Oper}
  (h : ∀ K : Act → Prop, (∀ a, wpK P ops W Q rest a → K a) → if Region.wanted o (yielded ops a.tmps) then keepOp P o a W K else K (a.put o.dst undef)) : wpK P ops W Q (o :: rest) a :=
 h _ (fun _ h => h)
def YK (P : Program) (ops : Array Oper) (W : World) (o : Oper) (v : Value) (a : Act) : Prop :=
 (Region.wanted o (yielded ops a.tmps) = true ∧ ∀ s : KW W, keepAt P o a s.w v) ∨ (Region.wanted o (yielded ops a.tmps) = false ∧ v = undef)
def kOp (P : Program) (ops : Array Oper) (W : World) (i : Nat) (K : Act → Prop) (a : Act) : Prop := ∃ o v, ops[i]? = some o ∧ YK P ops W o v a ∧ K (a.put o.dst v)
theorem YK.same {o : Oper} {v : Value} {a a' : Act} (hy : YK P ops W o v a) (he : execOp a'.eval o = execOp a.eval o) (hw : Region.wanted o (yielded ops a'.tmps) = Region.wanted o (yielded ops a.tmps)) : YK P ops W o v a' := by
 unfold YK keepAt at *
 rw [he, hw]
 exact hy
theorem wpK_yields {Q : Act → Prop} {a : Act} {o : Oper} {rest : List Oper} (h : wpK P ops W Q (o :: rest) a) : ∃ v, YK P ops W o v a ∧ wpK P ops W Q rest (a.put o.dst v) := by
 unfold wpK at h
 by_cases hw : Region.wanted o (yielded ops a.tmps) = true
 ·rw [if_pos hw] at h
  obtain ⟨v, h1, h2⟩ := h
  exact ⟨v, .inl ⟨hw, h1⟩, h2⟩
 ·rw [if_neg hw] at h
  exact ⟨undef, .inr ⟨by simpa using hw, rfl⟩, h⟩
theorem YK.wpOp {W1 : World} (hW : Below W.heap.size W W1) {i : Nat} {o : Oper} {v : Value} {a : Act} (hi : ops[i]? = some o) (hy : YK P ops W o v a) {K : Act → World → Prop} {Q : Exit → Act → World → Prop} (s : KW W1)
  (h : ∀ t : KW W1, K (a.put o.dst v) t.w) : wpOp P ops Q i K a s.w := by
 unfold Go.wpOp
 simp only [hi]
 rcases hy with ⟨hw, hv⟩ | ⟨hw, rfl⟩
 ·rw [if_pos hw]
  refine .inl ?_
  have hk := hv ⟨s.w, hW.trans (s.keep.mono hW.size)⟩
  unfold keepAt at hk
  unfold Oper.wp
  generalize (execOp a.eval o).run P s.w = r at *
  cases r with
  | ok x w' =>
   cases x <;> simp only [keepUpon] at hk <;> simp only [Oper.upon]
   case value u =>
    obtain ⟨e1, e2⟩ := hk
    rw [e1, e2]
    exact h s
   case skip =>
    obtain ⟨e1, e2⟩ := hk
    rw [e1, ← e2]
    exact h s
   case enter f args =>
    obtain ⟨e1, hc⟩ := hk
    rw [e1]
    exact hc.mono fun e w'' ⟨he, hb⟩ => by subst he; exact h (s.next w'' hb)
  | halt x w' => simp only [keepUpon] at hk
 ·rw [if_neg (by rw [hw]; exact Bool.false_ne_true)]
  exact h s
def HeadK (P : Program) (md : Region.Mode) (ops : Array Oper) (W : World) (n : Nat) (L : Array Bool → Act → Prop) : Nat → Array Bool → Act → Prop
 | 0, done, a => L done a
 | f + 1, done, a => (∃ i, i < n ∧ i ∈ Region.ready md ops done) ∧ ∀ i ∈ Region.ready md ops done, i = n ∨ (i < n ∧ kOp P ops W i (HeadK P md ops W n L f (done.setIfInBounds i true)) a)
theorem HeadK.first {i : Nat} {oi : Oper} {v : Value} {L : Array Bool → Act → Prop} (hi : ops[i]? = some oi) (hsel : ∀ (j : Nat) (o : Oper) cs b, ops[j]? = some o → o.op ≠ .select cs b)
  (hs : Region.sinkB md ops (n + 1) = true) (hc : Region.chainB md ops (n + 1) = true) (hn : n + 1 < ops.size) (hin : i < n) (hend : ∀ done a, L done a → Region.ready md ops done = [n]) :
  ∀ (f : Nat) (done : Array Bool) (a : Act), HeadInv md ops (n + 1) done →
   (∀ j oj, ops[j]? = some oj → j ≠ i → done.getD j true = false → (∀ e ∈ oj.after, Region.binds md e = true → e.on ≠ i) → oi.apart ops oj = true) →
   i ∈ Region.ready md ops done → YK P ops W oi v a → HeadK P md ops W n L f (done.setIfInBounds i true) (a.put oi.dst v) → HeadK P md ops W n L (f + 1) done a := by
 intro f
 induction f with
 | zero =>
  intro done a inv _ hr hy H
  refine ⟨⟨i, hin, hr⟩, fun j hj => ?_⟩
  by_cases hji : j = i
  ·subst hji
   exact .inr ⟨hin, oi, v, hi, hy, H⟩
  ·have h1 := ready_mono hj hji
   rw [hend _ _ H] at h1
   exact .inl (by simpa using h1)
 | succ f ih =>
  intro done a inv hfree hr hy H
  have hun := (mem_ready.1 hr).1
  refine ⟨⟨i, hin, hr⟩, fun j hj => ?_⟩
  have hjn : j < n + 1 := Nat.lt_of_not_le fun h => tail_waits hs hc hn inv _ i rfl (by omega) hun j h hj
  by_cases hji : j = i
  ·subst hji
   exact .inr ⟨hin, oi, v, hi, hy, H⟩
  ·rcases H.2 j (ready_mono hj hji) with h0 | ⟨hjlt, oj, u, hoj, hyj, hK⟩
   ·exact .inl h0
   ·obtain ⟨hjun, oj', hoj', hall⟩ := mem_ready.1 hj
    have e : oj' = oj := Option.some.inj (hoj'.symm.trans hoj)
    subst e
    have hno : ∀ e ∈ oj'.after, Region.binds md e = true → e.on ≠ i := by
     intro e he hb heq
     have h1 := hall e he hb
     rw [heq, getD_both hun] at h1
     cases h1
    obtain ⟨h1, h2, h3⟩ := Oper.apart_spec (hfree j oj' hoj hji hjun hno)
    have hyj' : YK P ops W oj' u a := hyj.same (execOp_put oj' (fun cs b => hsel j oj' cs b hoj) a oi.dst v h1).symm (wanted_put oj' a oi.dst v h1).symm
    have hyi' : YK P ops W oi v (a.put oj'.dst u) := hy.same (execOp_put oi (fun cs b => hsel i oi cs b hi) a oj'.dst u h3) (wanted_put oi a oj'.dst u h3)
    refine .inr ⟨hjlt, oj', u, hoj, hyj', ih (done.setIfInBounds j true) _ (inv.set hj hjn) ?_ (ready_mono hr (Ne.symm hji)) hyi' ?_⟩
    ·intro k ok hk hki hku hkn
     refine hfree k ok hk hki ?_ hkn
     by_cases hjk : j = k
     ·subst hjk
      exact hjun
     ·rw [getD_set_ne true hjk] at hku
      exact hku
    ·rw [Array.setIfInBounds_comm _ _ hji, ← Act.put_comm a v u h2]
     exact hK
theorem HeadK.lex {g : Nat} {K : Act → Prop} (hsel : Region.noSelect ops = true) (hs : Region.sinkB md ops (n + 1) = true) (hc : Region.chainB md ops (n + 1) = true) (hn : n + 1 < ops.size) (l : List Oper) :
  ∀ (k : Nat) (done : Array Bool) (a : Act), (∀ j, j < l.length → l[j]? = ops[k + j]?) → k + l.length = n → HeadInv md ops (n + 1) done →
  lexA md ops g n l.length k done = true → wpK P ops W K l a → HeadK P md ops W n (fun d a' => (Region.ready md ops d = [n] ∧ Region.seqB md ops g (n + 1) (d.setIfInBounds n true) = true) ∧ K a') l.length done a := by
 induction l with
 | nil =>
  intro k done a _ hk _ hB h
  simp only [List.length_nil, lexA, Bool.and_eq_true, decide_eq_true_eq] at hB
  exact ⟨hB, h⟩
 | cons o l ih =>
  intro k done a hl hk inv hB h
  have h0 : ops[k]? = some o := by simpa using (hl 0 (by simp)).symm
  simp only [List.length_cons, lexA, Bool.and_eq_true] at hB
  simp only [List.length_cons] at hk
  have hr : k ∈ Region.ready md ops done := by simpa using hB.1.1
  obtain ⟨v, hy, hK⟩ := wpK_yields h
  refine HeadK.first h0 (Region.noSelect_spec hsel) hs hc hn (by omega) (fun d a' hL => hL.1.1) l.length done a inv (Region.free_spec h0 hB.1.2) hr hy ?_
  refine ih (k + 1) _ _ (fun j hj => ?_) (by omega) (inv.set hr (by omega)) hB.2 hK
  have := hl (j + 1) (by simp; omega)
  simpa [Nat.add_assoc, Nat.add_comm 1 j] using this
theorem HeadK.anyT {g : Nat} {L : Array Bool → Act → Prop} {Q : Exit → Act → World → Prop} {om : Oper} (hom : ops[n]? = some om) (hsel : Region.noSelect ops = true) (hs : Region.sinkB md ops (n + 1) = true) (hc : Region.chainB md ops (n + 1) = true) (hn : n + 1 < ops.size) (hfr : freeN md ops n = true)
  {W1 : World} (hW : Below W.heap.size W W1) (p : Value) (hL : ∀ done a, L done a → ∀ s : KW W1, wpAny P md ops Q g (done.setIfInBounds n true) (a.put om.dst p) s.w) :
  ∀ (f : Nat) (done : Array Bool) (a : Act), HeadInv md ops (n + 1) (done.setIfInBounds n true) → HeadK P md ops W n L f done a → ∀ s : KW W1, wpAny P md ops Q (f + g) (done.setIfInBounds n true) (a.put om.dst p) s.w := by
 intro f
 induction f with
 | zero =>
  intro done a _ h s
  rw [Nat.zero_add]
  exact hL done a h s
 | succ f ih =>
  intro done a inv h s
  have e : f + 1 + g = (f + g) + 1 := by omega
  rw [e]
  obtain ⟨⟨i0, hi0, hr0⟩, hall⟩ := h
  have hr0' : i0 ∈ Region.ready md ops (done.setIfInBounds n true) := ready_mono hr0 (by omega)
  refine ⟨fun h0 => (by rw [h0] at hr0'; cases hr0'), fun i hi => ?_⟩
  have hin : i < n + 1 := Nat.lt_of_not_le fun h => tail_waits hs hc hn inv _ i0 rfl (by omega) (mem_ready.1 hr0').1 i h hi
  obtain ⟨hiun, oi, hoi, hie⟩ := mem_ready.1 hi
  have hne : i ≠ n := by
   intro he
   subst he
   by_cases hlt : i < done.size
   ·simp [hlt] at hiun
   ·rw [Array.getD_eq_getD_getElem?, Array.getElem?_eq_none (by simpa using hlt)] at hiun
    cases hiun
  have hF := List.all_eq_true.1 hfr i (List.mem_range.2 (by omega))
  simp only [hoi, hom, Bool.and_eq_true, Bool.not_eq_true'] at hF
  have hwait := waits_of hoi hF.1
  have hrd : i ∈ Region.ready md ops done := by
   rw [mem_ready]
   rw [getD_set_ne true (Ne.symm hne)] at hiun
   refine ⟨hiun, oi, hoi, fun e he hb => ?_⟩
   have := hie e he hb
   rwa [getD_set_ne false (Ne.symm (hwait e he hb))] at this
  rcases hall i hrd with h0 | ⟨hlt, o, v, ho, hy, hK⟩
  ·exact absurd h0 hne
  ·have eo : o = oi := Option.some.inj (ho.symm.trans hoi)
   subst eo
   obtain ⟨h1, h2, h3⟩ := Oper.apart_spec hF.2
   have hso : ∀ cs b, o.op ≠ .select cs b := fun cs b => Region.noSelect_spec hsel i o cs b ho
   have hy' : YK P ops W o v (a.put om.dst p) := hy.same (execOp_put o hso a om.dst p h3) (wanted_put o a om.dst p h3)
   refine hy'.wpOp hW ho s fun t => ?_
   rw [← Act.put_comm a v p h2, Array.setIfInBounds_comm _ _ (Ne.symm hne)]
   refine ih (done.setIfInBounds i true) _ ?_ hK t
   rw [Array.setIfInBounds_comm _ _ hne]
   exact inv.set hi hin
theorem HeadK.anyS {g : Nat} {L : Array Bool → Act → Prop} {Q : Exit → Act → World → Prop} {om : Oper} {Z : Obj} (hom : ops[n]? = some om) (hsel : Region.noSelect ops = true) (hs : Region.sinkB md ops (n + 1) = true) (hc : Region.chainB md ops (n + 1) = true) (hn : n + 1 < ops.size) (hfr : freeN md ops n = true)
  (hg : om.guard = none) (hrun : ∀ a w, (execOp (Act.eval a) om).run P w = .ok (.value (.pointer (some ⟨w.heap.size, 0, none⟩))) (w.alloc Z)) (hend : ∀ done a, L done a → Region.ready md ops done = [n])
  (hL : ∀ done a, L done a → ∀ (w1 : World) (b : Nat), Below W.heap.size W w1 → W.heap.size ≤ b → w1.heap[b]? = some Z → wpAny P md ops Q g (done.setIfInBounds n true) (a.put om.dst (.pointer (some ⟨b, 0, none⟩))) w1) :
  ∀ (f : Nat) (done : Array Bool) (a : Act), HeadInv md ops (n + 1) done → HeadK P md ops W n L f done a → ∀ s : KW W, wpAny P md ops Q (f + 1 + g) done a s.w := by
 have hnow : ∀ (f : Nat) (done : Array Bool) (a : Act) (s : KW W), HeadInv md ops (n + 1) done → n ∈ Region.ready md ops done → HeadK P md ops W n L f done a → wpOp P ops Q n (wpAny P md ops Q (f + g) (done.setIfInBounds n true)) a s.w := by
  intro f done a s inv hr h
  unfold wpOp
  have hw : Region.wanted om (yielded ops a.tmps) = true := by simp [Region.wanted, hg]
  simp only [hom, hw, if_true]
  refine .inl ?_
  unfold Oper.wp
  rw [hrun]
  simp only [Oper.upon]
  have hW1 : Below W.heap.size W (s.w.alloc Z) := s.keep.alloc s.keep.size Z
  refine HeadK.anyT hom hsel hs hc hn hfr hW1 _ ?_ f done a (inv.set hr (by omega)) h ⟨_, Below.refl _ _⟩
  intro d a' hd t
  refine hL d a' hd t.w _ (hW1.trans (t.keep.mono hW1.size)) s.keep.size ?_
  rw [t.keep.block _ (by simp)]
  exact heap_alloc_new s.w Z
 intro f
 induction f with
 | zero =>
  intro done a inv h s
  have e : 0 + 1 + g = (0 + g) + 1 := by omega
  rw [e]
  have hr := hend done a h
  refine ⟨fun h0 => (by rw [hr] at h0; cases h0), fun i hi => ?_⟩
  have hi' : i = n := by rw [hr] at hi; simpa using hi
  rw [hi'] at hi ⊢
  exact hnow 0 done a s inv hi h
 | succ f ih =>
  intro done a inv h s
  have e : f + 1 + 1 + g = (f + 1 + g) + 1 := by omega
  rw [e]
  have h' := h
  obtain ⟨⟨i0, hi0, hr0⟩, hall⟩ := h
  refine ⟨fun h0 => (by rw [h0] at hr0; cases hr0), fun i hi => ?_⟩
  rcases hall i hi with h0 | ⟨hlt, o, v, ho, hy, hK⟩
  ·rw [h0] at hi ⊢
   exact hnow (f + 1) done a s inv hi h'
  ·refine hy.wpOp (Below.refl _ _) ho s fun t => ?_
   exact ih (done.setIfInBounds i true) _ (inv.set hi (by omega)) hK t
theorem wp_region_keep_alloc {id : Nat} {Q : Exit → Act → World → Prop} {a : Act} {l : List Oper} {om : Oper} {Z : Obj} (n : Nat) (hm : P.follows .mixedOrders = true) (hB : lexAllocB .any l.toArray n = true)
  (hom : l.toArray[n]? = some om) (hg : om.guard = none) (hrun : ∀ a w, (execOp (Act.eval a) om).run P w = .ok (.value (.pointer (some ⟨w.heap.size, 0, none⟩))) (w.alloc Z))
  (h : wpK P l.toArray W (fun a' => ∀ (w1 : World) (b : Nat), Below W.heap.size W w1 → W.heap.size ≤ b → w1.heap[b]? = some Z → ∀ a2, a2 = a'.put om.dst (.pointer (some ⟨b, 0, none⟩)) → wpList P l.toArray Q (l.drop (n + 1)) a2 w1) (l.take n) a) :
  (Code.region id l.toArray true).wp P Q a W := by
 simp only [lexAllocB, Bool.and_eq_true, decide_eq_true_eq] at hB
 obtain ⟨⟨⟨⟨⟨hsel, hn⟩, hs⟩, hc⟩, hfr⟩, hlex⟩ := hB
 have hn' : n + 1 < l.length := by simpa using hn
 have htl : (l.take n).length = n := by simp; omega
 have hdl : (l.drop (n + 1)).length = l.toArray.size - (n + 1) := by simp
 have inv : HeadInv .any l.toArray (n + 1) (Array.replicate l.toArray.size false) :=
  ⟨by simp, fun j oj _ hl => (by rw [getD_replicate_false] at hl; cases hl), fun t _ ht => getD_in (by simpa using ht) (getD_replicate_false _ _)⟩
 have H := HeadK.lex (md := .any) (g := l.toArray.size - (n + 1)) hsel hs hc hn (l.take n) 0 _ a (fun j hj => by rw [htl] at hj; simp [hj]) (by simpa using htl) inv (by rw [htl]; exact hlex) h
 refine wp_region_any hm ?_
 have H2 := HeadK.anyS (Q := Q) (g := l.toArray.size - (n + 1)) hom hsel hs hc hn hfr hg hrun (fun d a' hL => hL.1.1) (fun d a' hL w1 b h1 h2 h3 => by
  have := wpAny_of_seq (md := .any) (Q' := Q) (l.drop (n + 1)) (n + 1) (d.setIfInBounds n true) (a'.put om.dst (.pointer (some ⟨b, 0, none⟩))) w1 (fun j => by simp [List.getElem?_drop]) (by rw [hdl]; exact hL.1.2) (hL.2 w1 b h1 h2 h3 _ rfl)
  rwa [hdl] at this) _ _ _ inv H ⟨W.drew, (Below.refl _ _).drew⟩
 rw [htl, show n + 1 + (l.toArray.size - (n + 1)) = l.toArray.size by omega] at H2
 exact H2
end
open Go.RowKit
theorem maskN (a : Nat) (ha : a < 18446744073709551616) : bits .and .u64 (a : Int) 4294967295 = ((a % 4294967296 : Nat) : Int) := by
 have h := bits_and_u64_nat a 4294967295 ha (by omega)
 have e : a &&& 4294967295 = a % 4294967296 := Nat.and_two_pow_sub_one_eq_mod a 32
 rw [e] at h
 exact h
theorem divN (a : Nat) : (a : Int) / 4294967296 = ((a / 4294967296 : Nat) : Int) := by omega
theorem mulN (a b : Nat) : (a : Int) * (b : Int) = ((a * b : Nat) : Int) := (Int.natCast_mul a b).symm
theorem addN (a b : Nat) : (a : Int) + (b : Int) = ((a + b : Nat) : Int) := (Int.natCast_add a b).symm
theorem wrapN (a : Nat) (ha : a < 18446744073709551616) : IntKind.u64.wrap (a : Int) = (a : Int) := by rw [IntKind.wrap_u64]; omega
theorem wrapM (a : Nat) : IntKind.u64.wrap (a : Int) = ((a % 18446744073709551616 : Nat) : Int) := by rw [IntKind.wrap_u64]; omega
theorem mul64_nat (x y : Nat) (hx : x < 18446744073709551616) (hy : y < 18446744073709551616) (w : World) : Calls Tryz.prog 158 #[.int .u64 x, .int .u64 y] w fun e w' => e = .returned (.tuple #[.int .u64 ((x * y / 18446744073709551616 : Nat) : Int), .int .u64 ((x * y % 18446744073709551616 : Nat) : Int)]) ∧ w' = w := by
 obtain ⟨bd, bt, bw, hhi⟩ := Lib.mul64_hi x y hx hy
 have ba := Lib.half_mul_le (a := x / 4294967296) (b := y / 4294967296) (by omega) (by omega)
 have bb := Lib.half_mul_le (a := x / 4294967296) (b := y % 4294967296) (by omega) (by omega)
 have bc := Lib.half_mul_le (a := x % 4294967296) (b := y / 4294967296) (by omega) (by omega)
 have ba' : x / 4294967296 * (y / 4294967296) < 18446744073709551616 := by omega
 have bb' : x / 4294967296 * (y % 4294967296) < 18446744073709551616 := by omega
 have bc' : x % 4294967296 * (y / 4294967296) < 18446744073709551616 := by omega
 have bh1 : x / 4294967296 * (y / 4294967296) + (x / 4294967296 * (y % 4294967296) + x % 4294967296 * (y % 4294967296) / 4294967296) / 4294967296 < 18446744073709551616 := by omega
 have bh : x / 4294967296 * (y / 4294967296) + (x / 4294967296 * (y % 4294967296) + x % 4294967296 * (y % 4294967296) / 4294967296) / 4294967296 + ((x / 4294967296 * (y % 4294967296) + x % 4294967296 * (y % 4294967296) / 4294967296) % 4294967296 + x % 4294967296 * (y / 4294967296)) / 4294967296 < 18446744073709551616 := by omega
 go_enter Tryz.func158, Tryz.ntmps158
 go_wp2
 simp only [maskN x hx, maskN y hy, divN, mulN, addN, wrapN _ bd, wrapN _ bb', wrapN _ bt, maskN _ bt, wrapN _ bc', wrapN _ bw, wrapN _ ba', wrapN _ bh1, wrapN _ bh, wrapM (x * y)]
 rw [hhi]
 go_ret2
 exact ⟨rfl, rfl⟩
theorem add64_run (x y c : Int) (hx : 0 ≤ x) (hy : 0 ≤ y) (hc0 : 0 ≤ c) (hc : c ≤ 1) (w : World) :
  (callFunc 159 #[.int .u64 x, .int .u64 y, .int .u64 c]).run Tryz.prog w =
   .ok (.value (.tuple #[.int .u64 ((x + y + c) % 18446744073709551616), .int .u64 ((x + y + c) / 18446744073709551616)])) w := by
 rw [run_callFunc_extern Tryz.func159 (by kernel_rfl) (by kernel_rfl) (by kernel_rfl) (e := add64Entry) (by kernel_rfl), run_add64 x y c hx hy hc0 hc]
 simp only [Result.andThen]
abbrev wd (N : Int) : Value := .agg #[.int .u64 (N / 18446744073709551616), .int .u64 (N % 18446744073709551616)]
theorem product_any (x y : Int) (w : World) (hx : W64 x) (hy : W64 y) : Cs 122 #[.int .u64 x, .int .u64 y] w (wd (x * y)) := by
 obtain ⟨X, rfl⟩ := Int.eq_ofNat_of_zero_le hx.1
 obtain ⟨Y, rfl⟩ := Int.eq_ofNat_of_zero_le hy.1
 have hX : X < 18446744073709551616 := by have := hx.2; omega
 have hY : Y < 18446744073709551616 := by have := hy.2; omega
 clear hx hy
 go_enter Tryz.func122, Tryz.ntmps122
 go_wp2_with fail
 refine (mul64_nat X Y hX hY _).mono ?_
 rintro _ w1 ⟨rfl, rfl⟩
 go_wp2
 exact bodyPost_ret (v := wd ((X : Int) * (Y : Int))) (by simp [results, Tryz.results122, go_sem]) rfl ⟨rfl, (Below.refl _ _).alloc (Nat.le_refl _) _⟩
theorem plusH {N M : Int} (h0 : 0 ≤ N) (h1 : 0 ≤ M) (hlt : N + M < 340282366920938463463374607431768211456) : (N / 18446744073709551616 + M / 18446744073709551616 + (N % 18446744073709551616 + M % 18446744073709551616) / 18446744073709551616) % 18446744073709551616 = (N + M) / 18446744073709551616 := by omega
theorem plusL {N M : Int} : (N % 18446744073709551616 + M % 18446744073709551616) % 18446744073709551616 = (N + M) % 18446744073709551616 := by omega
theorem plus_hl (h l h' l' : Int) (w : World) (a0 : 0 ≤ h) (b0 : 0 ≤ l) (b1 : l < 18446744073709551616) (c0 : 0 ≤ h') (d0 : 0 ≤ l') (d1 : l' < 18446744073709551616) : Cs 123 #[.agg #[.int .u64 h, .int .u64 l], .agg #[.int .u64 h', .int .u64 l']] w (.agg #[.int .u64 ((h + h' + (l + l') / 18446744073709551616) % 18446744073709551616), .int .u64 ((l + l') % 18446744073709551616)]) := by
 have r1 := add64_run l l' 0 b0 d0 (by decide) (by decide)
 have r2 := add64_run h h' ((l + l' + 0) / 18446744073709551616) a0 c0 (by omega) (by omega)
 rw [Int.add_zero] at r1 r2
 go_enter Tryz.func123, Tryz.ntmps123
 go_wp2
 exact bodyPost_ret (v := .agg #[.int .u64 ((h + h' + (l + l') / 18446744073709551616) % 18446744073709551616), .int .u64 ((l + l') % 18446744073709551616)]) (by simp [results, Tryz.results123, go_sem]) rfl ⟨rfl, (((Below.refl _ _).alloc (Nat.le_refl _) _).alloc (by simp) _).alloc (by simp; omega) _⟩
theorem plus_any (N M : Int) (w : World) (h0 : 0 ≤ N) (h1 : 0 ≤ M) (hlt : N + M < 340282366920938463463374607431768211456) : Cs 123 #[wd N, wd M] w (wd (N + M)) := by
 have := plus_hl (N / 18446744073709551616) (N % 18446744073709551616) (M / 18446744073709551616) (M % 18446744073709551616) w (by omega) (by omega) (by omega) (by omega) (by omega) (by omega)
 rw [plusH h0 h1 hlt, plusL] at this
 exact this
theorem belowR (N : Int) : bits BinOp.and IntKind.u64 (N % 18446744073709551616) 2251799813685247 = N % 2251799813685248 := by
 rw [and51 ⟨by omega, by omega⟩]
 omega
theorem below_any (N : Int) (w : World) : Cs 124 #[wd N] w (.int .u64 (N % 2251799813685248)) := by
 have e := belowR N
 go_enter Tryz.func124, Tryz.ntmps124
 go_wp2
 go_ret
 exact ⟨rfl, (Below.refl _ _).alloc (Nat.le_refl _) _⟩
theorem aboveR {N : Int} (h0 : 0 ≤ N) (h1 : N < 41538374868278621028243970633760768) : bits BinOp.or IntKind.u64 (IntKind.u64.wrap (N / 18446744073709551616 * 8192)) (N % 18446744073709551616 / 2251799813685248) = N / 2251799813685248 := by
 rw [wrap64u ⟨by omega, by omega⟩, or_join 13 8192 (by decide) ⟨by omega, by omega⟩ ⟨by omega, by omega⟩ (by omega) (by omega)]
 omega
theorem above_any (N : Int) (w : World) (h0 : 0 ≤ N) (h1 : N < 41538374868278621028243970633760768) : Cs 125 #[wd N] w (.int .u64 (N / 2251799813685248)) := by
 have e := aboveR h0 h1
 clear h0 h1
 go_enter Tryz.func125, Tryz.ntmps125
 go_wp2
 go_ret
 exact ⟨rfl, (Below.refl _ _).alloc (Nat.le_refl _) _⟩
open Go.RowKit
theorem E5.Ok.wa {x : E5} (h : x.Ok) : W64 x.a := ⟨h.a0, by have := h.a1; omega⟩
theorem E5.Ok.wb {x : E5} (h : x.Ok) : W64 x.b := ⟨h.b0, by have := h.b1; omega⟩
theorem E5.Ok.vb {x : E5} (h : x.Ok) : W64 (x.b * 19) := ⟨by have := h.b0; omega, by have := h.b1; omega⟩
theorem E5.Ok.wc {x : E5} (h : x.Ok) : W64 x.c := ⟨h.c0, by have := h.c1; omega⟩
theorem E5.Ok.vc {x : E5} (h : x.Ok) : W64 (x.c * 19) := ⟨by have := h.c0; omega, by have := h.c1; omega⟩
theorem E5.Ok.wd {x : E5} (h : x.Ok) : W64 x.d := ⟨h.d0, by have := h.d1; omega⟩
theorem E5.Ok.vd {x : E5} (h : x.Ok) : W64 (x.d * 19) := ⟨by have := h.d0; omega, by have := h.d1; omega⟩
theorem E5.Ok.we {x : E5} (h : x.Ok) : W64 x.e := ⟨h.e0, by have := h.e1; omega⟩
theorem E5.Ok.ve {x : E5} (h : x.Ok) : W64 (x.e * 19) := ⟨by have := h.e0; omega, by have := h.e1; omega⟩
structure MulW (w W : World) : Prop where
 old : Below w.heap.size w W
 size : w.heap.size + 1 + 1 < W.heap.size
 free : ∀ o, W.frozen? ⟨w.heap.size + 1 + 1, o, none⟩ = false
 c0 : W.cell? ⟨w.heap.size + 1 + 1, 0, none⟩ = some (.int .u64 0)
 c1 : W.cell? ⟨w.heap.size + 1 + 1, 1, none⟩ = some (.int .u64 0)
 c2 : W.cell? ⟨w.heap.size + 1 + 1, 2, none⟩ = some (.int .u64 0)
 c3 : W.cell? ⟨w.heap.size + 1 + 1, 3, none⟩ = some (.int .u64 0)
 c4 : W.cell? ⟨w.heap.size + 1 + 1, 4, none⟩ = some (.int .u64 0)
theorem MulW.keep {w W W' : World} (h : MulW w W) (hb : Below W.heap.size W W') : MulW w W' :=
 ⟨h.old.trans (hb.mono h.old.size), Nat.lt_of_lt_of_le h.size hb.size, fun o => (hb.frozen (p := ⟨_, o, none⟩) h.size).trans (h.free o), (hb.cell (p := ⟨_, 0, none⟩) h.size).trans h.c0, (hb.cell (p := ⟨_, 1, none⟩) h.size).trans h.c1, (hb.cell (p := ⟨_, 2, none⟩) h.size).trans h.c2, (hb.cell (p := ⟨_, 3, none⟩) h.size).trans h.c3, (hb.cell (p := ⟨_, 4, none⟩) h.size).trans h.c4⟩
theorem MulW.start {w W : World} {A B : Obj} {n : Nat}
  (hb : Below ((((w.alloc A).alloc B).alloc (.cells #[.int .u64 0, .int .u64 0, .int .u64 0, .int .u64 0, .int .u64 0] 116)).drewN n).heap.size ((((w.alloc A).alloc B).alloc (.cells #[.int .u64 0, .int .u64 0, .int .u64 0, .int .u64 0, .int .u64 0] 116)).drewN n) W) : MulW w W := by
 refine MulW.keep ?_ hb
 refine ⟨?_, by simp, by simp [go_sem], by simp [go_sem], by simp [go_sem], by simp [go_sem], by simp [go_sem], by simp [go_sem]⟩
 have := (((Below.refl w.heap.size w).alloc (Nat.le_refl _) A).alloc (by simp) B).alloc (by simp; omega) (.cells #[.int .u64 0, .int .u64 0, .int .u64 0, .int .u64 0, .int .u64 0] 116)
 exact ⟨this.os, this.tape, this.output, this.size, this.block⟩
structure At (W : World) (g : Nat) (N : Int) : Prop where
 size : g < W.heap.size
 c0 : W.cell? ⟨g, 0, none⟩ = some (.int .u64 (N / 18446744073709551616))
 c1 : W.cell? ⟨g, 1, none⟩ = some (.int .u64 (N % 18446744073709551616))
theorem At.keep {W W' : World} {g : Nat} {N : Int} (h : At W g N) (hb : Below W.heap.size W W') : At W' g N :=
 ⟨Nat.lt_of_lt_of_le h.size hb.size, (hb.cell (p := ⟨g, 0, none⟩) h.size).trans h.c0, (hb.cell (p := ⟨g, 1, none⟩) h.size).trans h.c1⟩
theorem At.new (W : World) (N : Int) : At (W.alloc (.cells #[.int .u64 (N / 18446744073709551616), .int .u64 (N % 18446744073709551616)] 169)) W.heap.size N :=
 ⟨by simp, by simp [go_sem], by simp [go_sem]⟩
theorem below_new (W : World) (o : Obj) : Below W.heap.size W (W.alloc o) := (Below.refl _ _).alloc (Nat.le_refl _) _
theorem mul_any (x y : E5) (w : World) (hx : x.Ok) (hy : y.Ok) : Calls Tryz.prog 93 #[x.v, y.v] w fun r w' => r = .returned (mulF x y).v ∧ Below w.heap.size w w' := by
 have HB := hide (MB.of hx hy)
 have HS := hide (MS.of hx hy)
 have q0 := hy.b0
 have q1 := hy.b1
 have q2 := hy.c0
 have q3 := hy.c1
 have q4 := hy.d0
 have q5 := hy.d1
 have q6 := hy.e0
 have q7 := hy.e1
 go_enter Tryz.func93, Tryz.ntmps93
 go_wp2_with fail
 go_quiet (fail)
 go_wp2_with fail
 go_quiet (fail)
 go_wp2_with fail
 clear q0 q1 q2 q3 q4 q5 q6 q7
 refine (product_any x.a y.a _ hx.wa hy.wa).mono ?_
 rintro _ wv ⟨rfl, hb⟩
 have M := MulW.start hb
 clear hb
 go_wp2_with fail
 refine (product_any x.b (y.e * 19) _ hx.wb hy.ve).mono ?_
 rintro _ wv ⟨rfl, hb⟩
 replace M := M.keep hb
 clear hb
 go_wp2_with fail
 refine (plus_any (x.a * y.a) (x.b * (y.e * 19)) _ (by have B := HB.out; have := B.aa; have := B.be'; have := B.cd'; have := B.dc'; have := B.eb'; omega) (by have B := HB.out; have := B.aa; have := B.be'; have := B.cd'; have := B.dc'; have := B.eb'; omega) (by have B := HB.out; have := B.aa; have := B.be'; have := B.cd'; have := B.dc'; have := B.eb'; omega)).mono ?_
 rintro _ wv ⟨rfl, hb⟩
 replace M := M.keep hb
 clear hb
 go_wp2_with fail
 refine (product_any x.c (y.d * 19) _ hx.wc hy.vd).mono ?_
 rintro _ wv ⟨rfl, hb⟩
 replace M := M.keep hb
 clear hb
 go_wp2_with fail
 refine (plus_any (x.a * y.a + x.b * (y.e * 19)) (x.c * (y.d * 19)) _ (by have B := HB.out; have := B.aa; have := B.be'; have := B.cd'; have := B.dc'; have := B.eb'; omega) (by have B := HB.out; have := B.aa; have := B.be'; have := B.cd'; have := B.dc'; have := B.eb'; omega) (by have B := HB.out; have := B.aa; have := B.be'; have := B.cd'; have := B.dc'; have := B.eb'; omega)).mono ?_
 rintro _ wv ⟨rfl, hb⟩
 replace M := M.keep hb
 clear hb
 go_wp2_with fail
 refine (product_any x.d (y.c * 19) _ hx.wd hy.vc).mono ?_
 rintro _ wv ⟨rfl, hb⟩
 replace M := M.keep hb
 clear hb
 go_wp2_with fail
 refine (plus_any (x.a * y.a + x.b * (y.e * 19) + x.c * (y.d * 19)) (x.d * (y.c * 19)) _ (by have B := HB.out; have := B.aa; have := B.be'; have := B.cd'; have := B.dc'; have := B.eb'; omega) (by have B := HB.out; have := B.aa; have := B.be'; have := B.cd'; have := B.dc'; have := B.eb'; omega) (by have B := HB.out; have := B.aa; have := B.be'; have := B.cd'; have := B.dc'; have := B.eb'; omega)).mono ?_
 rintro _ wv ⟨rfl, hb⟩
 replace M := M.keep hb
 clear hb
 go_wp2_with fail
 refine (product_any x.e (y.b * 19) _ hx.we hy.vb).mono ?_
 rintro _ wv ⟨rfl, hb⟩
 replace M := M.keep hb
 clear hb
 go_wp2_with fail
 refine (plus_any (x.a * y.a + x.b * (y.e * 19) + x.c * (y.d * 19) + x.d * (y.c * 19)) (x.e * (y.b * 19)) _ (by have B := HB.out; have := B.aa; have := B.be'; have := B.cd'; have := B.dc'; have := B.eb'; omega) (by have B := HB.out; have := B.aa; have := B.be'; have := B.cd'; have := B.dc'; have := B.eb'; omega) (by have B := HB.out; have := B.aa; have := B.be'; have := B.cd'; have := B.dc'; have := B.eb'; omega)).mono ?_
 rintro _ wv ⟨rfl, hb⟩
 replace M := M.keep hb
 clear hb
 rw [show x.a * y.a + x.b * (y.e * 19) + x.c * (y.d * 19) + x.d * (y.c * 19) + x.e * (y.b * 19) = m0 x y from rfl]
 go_wp2_with fail
 refine (product_any x.a y.b _ hx.wa hy.wb).mono ?_
 rintro _ wv ⟨rfl, hb⟩
 replace M := (M.keep (below_new _ _)).keep hb
 have A0 := (At.new _ _).keep hb
 clear hb
 go_wp2_with fail
 refine (product_any x.b y.a _ hx.wb hy.wa).mono ?_
 rintro _ wv ⟨rfl, hb⟩
 replace M := M.keep hb
 replace A0 := A0.keep hb
 clear hb
 go_wp2_with fail
 refine (plus_any (x.a * y.b) (x.b * y.a) _ (by have B := HB.out; have := B.ab; have := B.ba; have := B.ce'; have := B.dd'; have := B.ec'; omega) (by have B := HB.out; have := B.ab; have := B.ba; have := B.ce'; have := B.dd'; have := B.ec'; omega) (by have B := HB.out; have := B.ab; have := B.ba; have := B.ce'; have := B.dd'; have := B.ec'; omega)).mono ?_
 rintro _ wv ⟨rfl, hb⟩
 replace M := M.keep hb
 replace A0 := A0.keep hb
 clear hb
 go_wp2_with fail
 refine (product_any x.c (y.e * 19) _ hx.wc hy.ve).mono ?_
 rintro _ wv ⟨rfl, hb⟩
 replace M := M.keep hb
 replace A0 := A0.keep hb
 clear hb
 go_wp2_with fail
 refine (plus_any (x.a * y.b + x.b * y.a) (x.c * (y.e * 19)) _ (by have B := HB.out; have := B.ab; have := B.ba; have := B.ce'; have := B.dd'; have := B.ec'; omega) (by have B := HB.out; have := B.ab; have := B.ba; have := B.ce'; have := B.dd'; have := B.ec'; omega) (by have B := HB.out; have := B.ab; have := B.ba; have := B.ce'; have := B.dd'; have := B.ec'; omega)).mono ?_
 rintro _ wv ⟨rfl, hb⟩
 replace M := M.keep hb
 replace A0 := A0.keep hb
 clear hb
 go_wp2_with fail
 refine (product_any x.d (y.d * 19) _ hx.wd hy.vd).mono ?_
 rintro _ wv ⟨rfl, hb⟩
 replace M := M.keep hb
 replace A0 := A0.keep hb
 clear hb
 go_wp2_with fail
 refine (plus_any (x.a * y.b + x.b * y.a + x.c * (y.e * 19)) (x.d * (y.d * 19)) _ (by have B := HB.out; have := B.ab; have := B.ba; have := B.ce'; have := B.dd'; have := B.ec'; omega) (by have B := HB.out; have := B.ab; have := B.ba; have := B.ce'; have := B.dd'; have := B.ec'; omega) (by have B := HB.out; have := B.ab; have := B.ba; have := B.ce'; have := B.dd'; have := B.ec'; omega)).mono ?_
 rintro _ wv ⟨rfl, hb⟩
 replace M := M.keep hb
 replace A0 := A0.keep hb
 clear hb
 go_wp2_with fail
 refine (product_any x.e (y.c * 19) _ hx.we hy.vc).mono ?_
 rintro _ wv ⟨rfl, hb⟩
 replace M := M.keep hb
 replace A0 := A0.keep hb
 clear hb
 go_wp2_with fail
 refine (plus_any (x.a * y.b + x.b * y.a + x.c * (y.e * 19) + x.d * (y.d * 19)) (x.e * (y.c * 19)) _ (by have B := HB.out; have := B.ab; have := B.ba; have := B.ce'; have := B.dd'; have := B.ec'; omega) (by have B := HB.out; have := B.ab; have := B.ba; have := B.ce'; have := B.dd'; have := B.ec'; omega) (by have B := HB.out; have := B.ab; have := B.ba; have := B.ce'; have := B.dd'; have := B.ec'; omega)).mono ?_
 rintro _ wv ⟨rfl, hb⟩
 replace M := M.keep hb
 replace A0 := A0.keep hb
 clear hb
 rw [show x.a * y.b + x.b * y.a + x.c * (y.e * 19) + x.d * (y.d * 19) + x.e * (y.c * 19) = m1 x y from rfl]
 go_wp2_with fail
 refine (product_any x.a y.c _ hx.wa hy.wc).mono ?_
 rintro _ wv ⟨rfl, hb⟩
 replace M := (M.keep (below_new _ _)).keep hb
 replace A0 := (A0.keep (below_new _ _)).keep hb
 have A1 := (At.new _ _).keep hb
 clear hb
 go_wp2_with fail
 refine (product_any x.b y.b _ hx.wb hy.wb).mono ?_
 rintro _ wv ⟨rfl, hb⟩
 replace M := M.keep hb
 replace A0 := A0.keep hb
 replace A1 := A1.keep hb
 clear hb
 go_wp2_with fail
 refine (plus_any (x.a * y.c) (x.b * y.b) _ (by have B := HB.out; have := B.ac; have := B.bb; have := B.ca; have := B.de'; have := B.ed'; omega) (by have B := HB.out; have := B.ac; have := B.bb; have := B.ca; have := B.de'; have := B.ed'; omega) (by have B := HB.out; have := B.ac; have := B.bb; have := B.ca; have := B.de'; have := B.ed'; omega)).mono ?_
 rintro _ wv ⟨rfl, hb⟩
 replace M := M.keep hb
 replace A0 := A0.keep hb
 replace A1 := A1.keep hb
 clear hb
 go_wp2_with fail
 refine (product_any x.c y.a _ hx.wc hy.wa).mono ?_
 rintro _ wv ⟨rfl, hb⟩
 replace M := M.keep hb
 replace A0 := A0.keep hb
 replace A1 := A1.keep hb
 clear hb
 go_wp2_with fail
 refine (plus_any (x.a * y.c + x.b * y.b) (x.c * y.a) _ (by have B := HB.out; have := B.ac; have := B.bb; have := B.ca; have := B.de'; have := B.ed'; omega) (by have B := HB.out; have := B.ac; have := B.bb; have := B.ca; have := B.de'; have := B.ed'; omega) (by have B := HB.out; have := B.ac; have := B.bb; have := B.ca; have := B.de'; have := B.ed'; omega)).mono ?_
 rintro _ wv ⟨rfl, hb⟩
 replace M := M.keep hb
 replace A0 := A0.keep hb
 replace A1 := A1.keep hb
 clear hb
 go_wp2_with fail
 refine (product_any x.d (y.e * 19) _ hx.wd hy.ve).mono ?_
 rintro _ wv ⟨rfl, hb⟩
 replace M := M.keep hb
 replace A0 := A0.keep hb
 replace A1 := A1.keep hb
 clear hb
 go_wp2_with fail
 refine (plus_any (x.a * y.c + x.b * y.b + x.c * y.a) (x.d * (y.e * 19)) _ (by have B := HB.out; have := B.ac; have := B.bb; have := B.ca; have := B.de'; have := B.ed'; omega) (by have B := HB.out; have := B.ac; have := B.bb; have := B.ca; have := B.de'; have := B.ed'; omega) (by have B := HB.out; have := B.ac; have := B.bb; have := B.ca; have := B.de'; have := B.ed'; omega)).mono ?_
 rintro _ wv ⟨rfl, hb⟩
 replace M := M.keep hb
 replace A0 := A0.keep hb
 replace A1 := A1.keep hb
 clear hb
 go_wp2_with fail
 refine (product_any x.e (y.d * 19) _ hx.we hy.vd).mono ?_
 rintro _ wv ⟨rfl, hb⟩
 replace M := M.keep hb
 replace A0 := A0.keep hb
 replace A1 := A1.keep hb
 clear hb
 go_wp2_with fail
 refine (plus_any (x.a * y.c + x.b * y.b + x.c * y.a + x.d * (y.e * 19)) (x.e * (y.d * 19)) _ (by have B := HB.out; have := B.ac; have := B.bb; have := B.ca; have := B.de'; have := B.ed'; omega) (by have B := HB.out; have := B.ac; have := B.bb; have := B.ca; have := B.de'; have := B.ed'; omega) (by have B := HB.out; have := B.ac; have := B.bb; have := B.ca; have := B.de'; have := B.ed'; omega)).mono ?_
 rintro _ wv ⟨rfl, hb⟩
 replace M := M.keep hb
 replace A0 := A0.keep hb
 replace A1 := A1.keep hb
 clear hb
 rw [show x.a * y.c + x.b * y.b + x.c * y.a + x.d * (y.e * 19) + x.e * (y.d * 19) = m2 x y from rfl]
 go_wp2_with fail
 refine (product_any x.a y.d _ hx.wa hy.wd).mono ?_
 rintro _ wv ⟨rfl, hb⟩
 replace M := (M.keep (below_new _ _)).keep hb
 replace A0 := (A0.keep (below_new _ _)).keep hb
 replace A1 := (A1.keep (below_new _ _)).keep hb
 have A2 := (At.new _ _).keep hb
 clear hb
 go_wp2_with fail
 refine (product_any x.b y.c _ hx.wb hy.wc).mono ?_
 rintro _ wv ⟨rfl, hb⟩
 replace M := M.keep hb
 replace A0 := A0.keep hb
 replace A1 := A1.keep hb
 replace A2 := A2.keep hb
 clear hb
 go_wp2_with fail
 refine (plus_any (x.a * y.d) (x.b * y.c) _ (by have B := HB.out; have := B.ad; have := B.bc; have := B.cb; have := B.da; have := B.ee'; omega) (by have B := HB.out; have := B.ad; have := B.bc; have := B.cb; have := B.da; have := B.ee'; omega) (by have B := HB.out; have := B.ad; have := B.bc; have := B.cb; have := B.da; have := B.ee'; omega)).mono ?_
 rintro _ wv ⟨rfl, hb⟩
 replace M := M.keep hb
 replace A0 := A0.keep hb
 replace A1 := A1.keep hb
 replace A2 := A2.keep hb
 clear hb
 go_wp2_with fail
 refine (product_any x.c y.b _ hx.wc hy.wb).mono ?_
 rintro _ wv ⟨rfl, hb⟩
 replace M := M.keep hb
 replace A0 := A0.keep hb
 replace A1 := A1.keep hb
 replace A2 := A2.keep hb
 clear hb
 go_wp2_with fail
 refine (plus_any (x.a * y.d + x.b * y.c) (x.c * y.b) _ (by have B := HB.out; have := B.ad; have := B.bc; have := B.cb; have := B.da; have := B.ee'; omega) (by have B := HB.out; have := B.ad; have := B.bc; have := B.cb; have := B.da; have := B.ee'; omega) (by have B := HB.out; have := B.ad; have := B.bc; have := B.cb; have := B.da; have := B.ee'; omega)).mono ?_
 rintro _ wv ⟨rfl, hb⟩
 replace M := M.keep hb
 replace A0 := A0.keep hb
 replace A1 := A1.keep hb
 replace A2 := A2.keep hb
 clear hb
 go_wp2_with fail
 refine (product_any x.d y.a _ hx.wd hy.wa).mono ?_
 rintro _ wv ⟨rfl, hb⟩
 replace M := M.keep hb
 replace A0 := A0.keep hb
 replace A1 := A1.keep hb
 replace A2 := A2.keep hb
 clear hb
 go_wp2_with fail
 refine (plus_any (x.a * y.d + x.b * y.c + x.c * y.b) (x.d * y.a) _ (by have B := HB.out; have := B.ad; have := B.bc; have := B.cb; have := B.da; have := B.ee'; omega) (by have B := HB.out; have := B.ad; have := B.bc; have := B.cb; have := B.da; have := B.ee'; omega) (by have B := HB.out; have := B.ad; have := B.bc; have := B.cb; have := B.da; have := B.ee'; omega)).mono ?_
 rintro _ wv ⟨rfl, hb⟩
 replace M := M.keep hb
 replace A0 := A0.keep hb
 replace A1 := A1.keep hb
 replace A2 := A2.keep hb
 clear hb
 go_wp2_with fail
 refine (product_any x.e (y.e * 19) _ hx.we hy.ve).mono ?_
 rintro _ wv ⟨rfl, hb⟩
 replace M := M.keep hb
 replace A0 := A0.keep hb
 replace A1 := A1.keep hb
 replace A2 := A2.keep hb
 clear hb
 go_wp2_with fail
 refine (plus_any (x.a * y.d + x.b * y.c + x.c * y.b + x.d * y.a) (x.e * (y.e * 19)) _ (by have B := HB.out; have := B.ad; have := B.bc; have := B.cb; have := B.da; have := B.ee'; omega) (by have B := HB.out; have := B.ad; have := B.bc; have := B.cb; have := B.da; have := B.ee'; omega) (by have B := HB.out; have := B.ad; have := B.bc; have := B.cb; have := B.da; have := B.ee'; omega)).mono ?_
 rintro _ wv ⟨rfl, hb⟩
 replace M := M.keep hb
 replace A0 := A0.keep hb
 replace A1 := A1.keep hb
 replace A2 := A2.keep hb
 clear hb
 rw [show x.a * y.d + x.b * y.c + x.c * y.b + x.d * y.a + x.e * (y.e * 19) = m3 x y from rfl]
 go_wp2_with fail
 refine (product_any x.a y.e _ hx.wa hy.we).mono ?_
 rintro _ wv ⟨rfl, hb⟩
 replace M := (M.keep (below_new _ _)).keep hb
 replace A0 := (A0.keep (below_new _ _)).keep hb
 replace A1 := (A1.keep (below_new _ _)).keep hb
 replace A2 := (A2.keep (below_new _ _)).keep hb
 have A3 := (At.new _ _).keep hb
 clear hb
 go_wp2_with fail
 refine (product_any x.b y.d _ hx.wb hy.wd).mono ?_
 rintro _ wv ⟨rfl, hb⟩
 replace M := M.keep hb
 replace A0 := A0.keep hb
 replace A1 := A1.keep hb
 replace A2 := A2.keep hb
 replace A3 := A3.keep hb
 clear hb
 go_wp2_with fail
 refine (plus_any (x.a * y.e) (x.b * y.d) _ (by have B := HB.out; have := B.ae; have := B.bd; have := B.cc; have := B.db; have := B.ea; omega) (by have B := HB.out; have := B.ae; have := B.bd; have := B.cc; have := B.db; have := B.ea; omega) (by have B := HB.out; have := B.ae; have := B.bd; have := B.cc; have := B.db; have := B.ea; omega)).mono ?_
 rintro _ wv ⟨rfl, hb⟩
 replace M := M.keep hb
 replace A0 := A0.keep hb
 replace A1 := A1.keep hb
 replace A2 := A2.keep hb
 replace A3 := A3.keep hb
 clear hb
 go_wp2_with fail
 refine (product_any x.c y.c _ hx.wc hy.wc).mono ?_
 rintro _ wv ⟨rfl, hb⟩
 replace M := M.keep hb
 replace A0 := A0.keep hb
 replace A1 := A1.keep hb
 replace A2 := A2.keep hb
 replace A3 := A3.keep hb
 clear hb
 go_wp2_with fail
 refine (plus_any (x.a * y.e + x.b * y.d) (x.c * y.c) _ (by have B := HB.out; have := B.ae; have := B.bd; have := B.cc; have := B.db; have := B.ea; omega) (by have B := HB.out; have := B.ae; have := B.bd; have := B.cc; have := B.db; have := B.ea; omega) (by have B := HB.out; have := B.ae; have := B.bd; have := B.cc; have := B.db; have := B.ea; omega)).mono ?_
 rintro _ wv ⟨rfl, hb⟩
 replace M := M.keep hb
 replace A0 := A0.keep hb
 replace A1 := A1.keep hb
 replace A2 := A2.keep hb
 replace A3 := A3.keep hb
 clear hb
 go_wp2_with fail
 refine (product_any x.d y.b _ hx.wd hy.wb).mono ?_
 rintro _ wv ⟨rfl, hb⟩
 replace M := M.keep hb
 replace A0 := A0.keep hb
 replace A1 := A1.keep hb
 replace A2 := A2.keep hb
 replace A3 := A3.keep hb
 clear hb
 go_wp2_with fail
 refine (plus_any (x.a * y.e + x.b * y.d + x.c * y.c) (x.d * y.b) _ (by have B := HB.out; have := B.ae; have := B.bd; have := B.cc; have := B.db; have := B.ea; omega) (by have B := HB.out; have := B.ae; have := B.bd; have := B.cc; have := B.db; have := B.ea; omega) (by have B := HB.out; have := B.ae; have := B.bd; have := B.cc; have := B.db; have := B.ea; omega)).mono ?_
 rintro _ wv ⟨rfl, hb⟩
 replace M := M.keep hb
 replace A0 := A0.keep hb
 replace A1 := A1.keep hb
 replace A2 := A2.keep hb
 replace A3 := A3.keep hb
 clear hb
 go_wp2_with fail
 refine (product_any x.e y.a _ hx.we hy.wa).mono ?_
 rintro _ wv ⟨rfl, hb⟩
 replace M := M.keep hb
 replace A0 := A0.keep hb
 replace A1 := A1.keep hb
 replace A2 := A2.keep hb
 replace A3 := A3.keep hb
 clear hb
 go_wp2_with fail
 refine (plus_any (x.a * y.e + x.b * y.d + x.c * y.c + x.d * y.b) (x.e * y.a) _ (by have B := HB.out; have := B.ae; have := B.bd; have := B.cc; have := B.db; have := B.ea; omega) (by have B := HB.out; have := B.ae; have := B.bd; have := B.cc; have := B.db; have := B.ea; omega) (by have B := HB.out; have := B.ae; have := B.bd; have := B.cc; have := B.db; have := B.ea; omega)).mono ?_
 rintro _ wv ⟨rfl, hb⟩
 replace M := M.keep hb
 replace A0 := A0.keep hb
 replace A1 := A1.keep hb
 replace A2 := A2.keep hb
 replace A3 := A3.keep hb
 clear hb
 rw [show x.a * y.e + x.b * y.d + x.c * y.c + x.d * y.b + x.e * y.a = m4 x y from rfl]
 go_wp2_with fail
 have bn := below_new wv (.cells #[.int .u64 (m4 x y / 18446744073709551616), .int .u64 (m4 x y % 18446744073709551616)] 169)
 replace M := M.keep bn
 replace A0 := A0.keep bn
 replace A1 := A1.keep bn
 replace A2 := A2.keep bn
 replace A3 := A3.keep bn
 have A4 := At.new wv (m4 x y)
 clear bn
 obtain ⟨W9, hW9⟩ : ∃ W9, wv.alloc (.cells #[.int .u64 (m4 x y / 18446744073709551616), .int .u64 (m4 x y % 18446744073709551616)] 169) = W9 := ⟨_, rfl⟩
 rw [hW9] at M A0 A1 A2 A3 A4
 rw [hW9]
 clear hW9
 obtain ⟨⟨Z0, Y0⟩, ⟨Z1, Y1⟩, ⟨Z2, Y2⟩, ⟨Z3, Y3⟩, ⟨Z4, Y4⟩⟩ := HS.out
 have HF := hide (show mulF x y = car (m0 x y % 2251799813685248 + m4 x y / 2251799813685248 * 19) (m1 x y % 2251799813685248 + m0 x y / 2251799813685248) (m2 x y % 2251799813685248 + m1 x y / 2251799813685248) (m3 x y % 2251799813685248 + m2 x y / 2251799813685248) (m4 x y % 2251799813685248 + m3 x y / 2251799813685248) from rfl)
 clear HS HB hx hy
 generalize m0 x y = n0 at *
 generalize m1 x y = n1 at *
 generalize m2 x y = n2 at *
 generalize m3 x y = n3 at *
 generalize m4 x y = n4 at *
 have k0 := fun s : KW W9 => (A0.keep s.keep).c0
 have l0 := fun s : KW W9 => (A0.keep s.keep).c1
 have k1 := fun s : KW W9 => (A1.keep s.keep).c0
 have l1 := fun s : KW W9 => (A1.keep s.keep).c1
 have k2 := fun s : KW W9 => (A2.keep s.keep).c0
 have l2 := fun s : KW W9 => (A2.keep s.keep).c1
 have k3 := fun s : KW W9 => (A3.keep s.keep).c0
 have l3 := fun s : KW W9 => (A3.keep s.keep).c1
 have k4 := fun s : KW W9 => (A4.keep s.keep).c0
 have l4 := fun s : KW W9 => (A4.keep s.keep).c1
 clear A0 A1 A2 A3 A4
 have hne : Nonempty (KW W9) := ⟨⟨W9, Below.refl _ _⟩⟩
 refine wp_region_keep_tail 27 (by kernel_rfl) (by kernel_rfl) ?_
 simp only [List.take_succ_cons, List.take_zero, List.drop_succ_cons, List.drop_zero]
 repeat (go_big_quiet_step (first | (go_at_call 124; exact keep_of (below_any _ _)) | (go_at_call 125; exact keep_of (above_any _ _ (by omega) (by omega))) | (go_at_call 105; exact keep_of (carried_any _ _ _ _ _ _ ⟨by omega, by omega⟩ ⟨by omega, by omega⟩ ⟨by omega, by omega⟩ ⟨by omega, by omega⟩ ⟨by omega, by omega⟩))))
 refine wpQuiet_nil ?_
 intro s
 have HE := HF.out
 rw [← HE]
 replace M := M.keep s.keep
 generalize s.w = W' at M ⊢
 generalize hz : mulF x y = z at HE ⊢
 have H := hide hz
 clear HE HF hz k0 k1 k2 k3 k4 l0 l1 l2 l3 l4 hne
 have H3 := hide M.old
 obtain ⟨_, hs, hf, c0, c1, c2, c3, c4⟩ := M
 clear Z0 Z1 Z2 Z3 Z4 Y0 Y1 Y2 Y3 Y4
 go_wp2
 refine bodyPost_ret (v := z.v) (by simp [results, Tryz.results93, go_sem, c0, c1, c2, c3, c4]) rfl ⟨by rw [H.out], ?_⟩
 exact set5 H3.out (by omega)
open Go.RowKit
def squaresF : Nat → E5 → E5
 | 0, x => x
 | n + 1, x => squaresF n (mulF x x)
theorem squaresF_ok : ∀ (n : Nat) {x : E5}, x.Ok → (squaresF n x).Ok
 | 0, _, h => h
 | n + 1, _, h => squaresF_ok n (mulF_ok h h)
theorem squares_any (n : Nat) : ∀ (x : E5) (w : World), x.Ok → n < 1000000 →
  Calls Tryz.prog 127 #[x.v, .int .u64 n] w fun r w' => r = .returned (squaresF n x).v ∧ Below w.heap.size w w' := by
 induction n with
 | zero =>
  intro x w hx _
  go_enter Tryz.func127, Tryz.ntmps127
  go_wp2
  exact bodyPost_ret (v := x.v) (by simp [results, Tryz.results127, go_sem]) rfl ⟨rfl, ((Below.refl _ _).alloc (Nat.le_refl _) _).alloc (by simp) _⟩
 | succ n ih =>
  intro x w hx hn
  have HI := hide ih
  clear ih
  have h0 : (((n + 1 : Nat) : Int) == 0) = false := beq_eq_false_iff_ne.2 (by omega)
  have e : ((n + 1 : Nat) : Int) = (n : Int) + 1 := by omega
  rw [e] at h0
  rw [e]
  go_enter Tryz.func127, Tryz.ntmps127
  go_wp2_with fail
  have R := Out.start1 w (.cells #[.int .u64 x.a, .int .u64 x.b, .int .u64 x.c, .int .u64 x.d, .int .u64 x.e] 116)
  refine (mul_any x x _ hx hx).mono ?_
  rintro _ w1 ⟨rfl, hb⟩
  replace R := R.keep hb
  clear hb
  go_wp2_with fail
  refine (HI.out (mulF x x) _ (mulF_ok hx hx) (by omega)).mono ?_
  rintro _ w2 ⟨rfl, hb⟩
  replace R := R.keep hb
  clear hb HI
  rw [show squaresF n (mulF x x) = squaresF (n + 1) x from rfl]
  generalize hz : squaresF (n + 1) x = z
  have H := hide hz
  obtain ⟨old, ge, hs, hf, c0, c1, c2, c3, c4⟩ := R
  have O := hide old
  clear old hz
  go_wp2
  refine bodyPost_ret (v := z.v) (by simp [results, Tryz.results127, go_sem, c0, c1, c2, c3, c4]) rfl ⟨by rw [H.out], ?_⟩
  exact five O.out ge
open Go.RowKit
attribute [local go_sem] keepOp keepAt keepUpon
def onesF (x : E5) : Nat → Nat → E5
 | 0, _ => smallF 1
 | f + 1, n => if n = 0 then smallF 1 else
  if n % 2 = 0 then mulF (squaresF (n / 2) (onesF x f (n / 2))) (onesF x f (n / 2))
  else mulF (squaresF 1 (mulF (squaresF (n / 2) (onesF x f (n / 2))) (onesF x f (n / 2)))) x
theorem onesF_ok {x : E5} (hx : x.Ok) : ∀ (f n : Nat), (onesF x f n).Ok
 | 0, _ => smallF_ok (by decide) (by decide)
 | f + 1, n => by
  have h := onesF_ok hx f (n / 2)
  unfold onesF
  split
  ·exact smallF_ok (by decide) (by decide)
  ·split
   ·exact mulF_ok (squaresF_ok _ h) h
   ·exact mulF_ok (squaresF_ok _ (mulF_ok (squaresF_ok _ h) h)) hx
theorem squares_half (n : Nat) (x : E5) (w : World) (hx : x.Ok) (hn : n < 1000000) : Calls Tryz.prog 127 #[x.v, .int .u64 ((n : Int) / 2)] w fun r w' => r = .returned (squaresF (n / 2) x).v ∧ Below w.heap.size w w' := by
 rw [show (n : Int) / 2 = ((n / 2 : Nat) : Int) from by omega]
 exact squares_any (n / 2) x w hx (by omega)
theorem squares_1 (x : E5) (w : World) (hx : x.Ok) : Calls Tryz.prog 127 #[x.v, .int .u64 1] w fun r w' => r = .returned (squaresF 1 x).v ∧ Below w.heap.size w w' := squares_any 1 x w hx (by decide)
theorem squares_3 (x : E5) (w : World) (hx : x.Ok) : Calls Tryz.prog 127 #[x.v, .int .u64 3] w fun r w' => r = .returned (squaresF 3 x).v ∧ Below w.heap.size w w' := squares_any 3 x w hx (by decide)
theorem squares_5 (x : E5) (w : World) (hx : x.Ok) : Calls Tryz.prog 127 #[x.v, .int .u64 5] w fun r w' => r = .returned (squaresF 5 x).v ∧ Below w.heap.size w w' := squares_any 5 x w hx (by decide)
theorem ones_any (x : E5) (hx : x.Ok) (f : Nat) : ∀ (n : Nat) (w : World), n < 2 ^ f → n < 1000000 →
  Calls Tryz.prog 126 #[x.v, .int .u64 n] w fun r w' => r = .returned (onesF x f n).v ∧ Below w.heap.size w w' := by
 induction f with
 | zero =>
  intro n w hn _
  have e : n = 0 := by omega
  subst e
  go_enter Tryz.func126, Tryz.ntmps126
  go_wp2_with fail
  have R := Out.start1 w (.cells #[.int .u64 x.a, .int .u64 x.b, .int .u64 x.c, .int .u64 x.d, .int .u64 x.e] 116)
  refine (small_any 1 _ (by decide) (by decide)).mono ?_
  rintro _ w1 ⟨rfl, hb⟩
  replace R := R.keep hb
  clear hb
  rw [show smallF 1 = onesF x 0 0 from rfl]
  generalize hz : onesF x 0 0 = z
  have H := hide hz
  obtain ⟨old, ge, hs, hf, c0, c1, c2, c3, c4⟩ := R
  have O := hide old
  clear old hz
  go_wp2
  refine bodyPost_ret (v := z.v) (by simp [results, Tryz.results126, go_sem, c0, c1, c2, c3, c4]) rfl ⟨by rw [H.out], ?_⟩
  exact five O.out ge
 | succ f ih =>
  intro n w hn hlt
  have HI := hide ih
  clear ih
  by_cases h0 : n = 0
  ·subst h0
   go_enter Tryz.func126, Tryz.ntmps126
   go_wp2_with fail
   have R := Out.start1 w (.cells #[.int .u64 x.a, .int .u64 x.b, .int .u64 x.c, .int .u64 x.d, .int .u64 x.e] 116)
   refine (small_any 1 _ (by decide) (by decide)).mono ?_
   rintro _ w1 ⟨rfl, hb⟩
   replace R := R.keep hb
   clear hb
   have e : onesF x (f + 1) 0 = smallF 1 := by simp [onesF]
   rw [← e]
   generalize hz : onesF x (f + 1) 0 = z
   have H := hide hz
   obtain ⟨old, ge, hs, hf, c0, c1, c2, c3, c4⟩ := R
   have O := hide old
   clear old hz e
   go_wp2
   refine bodyPost_ret (v := z.v) (by simp [results, Tryz.results126, go_sem, c0, c1, c2, c3, c4]) rfl ⟨by rw [H.out], ?_⟩
   exact five O.out ge
  ·have b0 : ((n : Int) == 0) = false := beq_eq_false_iff_ne.2 (by omega)
   have hp : n / 2 < 2 ^ f := by
    have : 2 ^ (f + 1) = 2 * 2 ^ f := by rw [Nat.pow_succ, Nat.mul_comm]
    omega
   have ok := onesF_ok hx f (n / 2)
   by_cases hodd : n % 2 = 0
   all_goals
    go_enter Tryz.func126, Tryz.ntmps126
    go_wp2_with fail
    have R := Out.start1 w (.cells #[.int .u64 x.a, .int .u64 x.b, .int .u64 x.c, .int .u64 x.d, .int .u64 x.e] 116)
    have A := EAt.new1 w x (.cells #[.int .u64 0, .int .u64 0, .int .u64 0, .int .u64 0, .int .u64 0] 116)
    rw [show (n : Int) / 2 = ((n / 2 : Nat) : Int) from by omega]
    refine (HI.out (n / 2) _ hp (by omega)).mono ?_
    rintro _ w1 ⟨rfl, hb⟩
    replace R := R.keep hb
    replace A := A.keep hb
    clear hb HI
    have he : onesF x (f + 1) n = if n % 2 = 0 then mulF (squaresF (n / 2) (onesF x f (n / 2))) (onesF x f (n / 2)) else mulF (squaresF 1 (mulF (squaresF (n / 2) (onesF x f (n / 2))) (onesF x f (n / 2)))) x := by
     rw [onesF, if_neg h0]
    first | rw [if_pos hodd] at he | rw [if_neg hodd] at he
    have HE := hide he
    clear he
    generalize onesF x f (n / 2) = half at *
    go_wp2_with fail
    replace R := R.keep (new_below w1 (.cells #[.int .u64 half.a, .int .u64 half.b, .int .u64 half.c, .int .u64 half.d, .int .u64 half.e] 116))
    replace A := A.keep (new_below w1 (.cells #[.int .u64 half.a, .int .u64 half.b, .int .u64 half.c, .int .u64 half.d, .int .u64 half.e] 116))
    have B := EAt.new w1 half 116
    generalize w1.heap.size = g at *
    generalize w1.alloc (.cells #[.int .u64 half.a, .int .u64 half.b, .int .u64 half.c, .int .u64 half.d, .int .u64 half.e] 116) = W at *
    have hne := KW.some W
    have a0 := B.k0
    have a1 := B.k1
    have a2 := B.k2
    have a3 := B.k3
    have a4 := B.k4
    refine wp_region_keep_alloc (Z := .cells #[.int .u64 0, .int .u64 0, .int .u64 0, .int .u64 0, .int .u64 0] 116) 6 (by kernel_rfl) (by kernel_rfl) rfl rfl (fun _ _ => by kernel_rfl) ?_
    simp only [List.take_succ_cons, List.take_zero, List.drop_succ_cons, List.drop_zero]
    refine wpK_step (fun K hK => ?_)
    go_simp
    refine hK _ ?_
    clear hK K
    refine wpK_step (fun K hK => ?_)
    go_simp
    refine hK _ ?_
    clear hK K
    refine wpK_step (fun K hK => ?_)
    go_simp
    refine hK _ ?_
    clear hK K
    rw [show IntKind.u64.wrap ((n : Int) / 2) = (n : Int) / 2 from wrap64u ⟨by omega, by omega⟩]
    refine wpK_step (fun K hK => ?_)
    go_simp
    refine ⟨_, fun s => squares_half n half _ ok hlt, hK _ ?_⟩
    clear hK K
    refine wpK_step (fun K hK => ?_)
    go_simp
    refine hK _ ?_
    clear hK K
    refine wpK_step (fun K hK => ?_)
    go_simp
    refine ⟨_, fun s => mul_any _ _ _ (squaresF_ok _ ok) ok, hK _ ?_⟩
    clear hK K
    refine wpK_nil ?_
    intro W1 gb hb1 hb2 hb3 a2 ha2
    simp [go_sem] at ha2
    subst ha2
    clear a0 a1 a2 a3 a4 hne
    have sz := A.size
    have sz2 := R.lie.size
    replace R := R.keep hb1
    replace A := A.keep hb1
    have G := EAt.of_zero hb3
    clear B hb1 hb3
    have ok2 := mulF_ok (squaresF_ok (n / 2) ok) ok
    generalize mulF (squaresF (n / 2) half) half = even at *
    have n1 : ¬ w.heap.size + 1 = gb := by omega
    have n2 : ¬ gb = w.heap.size + 1 := by omega
    have GE := G.put even
    obtain ⟨gs, gf, g0, g1, g2, g3, g4⟩ := G
    have ev : ((n : Int) % 2 == 0) = decide (n % 2 = 0) := by rw [Bool.eq_iff_iff]; simp; omega
   ·rw [decide_eq_true hodd] at ev
    obtain ⟨old, ge, hs, hf, c0, c1, c2, c3, c4⟩ := R
    have O := hide old
    clear old A GE hn h0 hp
    go_wp2_with fail
    refine bodyPost_ret (v := even.v) (by simp [results, Tryz.results126, go_sem, c0, c1, c2, c3, c4]) rfl ⟨by rw [HE.out], ?_⟩
    exact five (five O.out (by omega)) ge
   ·rw [decide_eq_false hodd] at ev
    have RR := hide (R.other (k := gb) (by omega) (by omega) even)
    have AA := hide (A.other (k := gb) (by omega) even)
    have BB := hide GE
    clear A R GE
    go_wp2_with fail
    replace R := RR.out
    replace A := AA.out
    replace B := BB.out
    clear RR AA BB gs gf g0 g1 g2 g3 g4
    obtain ⟨W2, hW2⟩ : ∃ W2, put5 W1 gb even = W2 := ⟨_, rfl⟩
    rw [hW2] at R A B
    rw [show (((((W1.setCell ⟨gb, 0, none⟩ (.int .u64 even.a)).setCell ⟨gb, 1, none⟩ (.int .u64 even.b)).setCell ⟨gb, 2, none⟩ (.int .u64 even.c)).setCell ⟨gb, 3, none⟩ (.int .u64 even.d)).setCell ⟨gb, 4, none⟩ (.int .u64 even.e)) = W2 from hW2]
    clear hW2
    have hne := KW.some W2
    have a0 := B.k0
    have a1 := B.k1
    have a2 := B.k2
    have a3 := B.k3
    have a4 := B.k4
    have b0 := A.k0
    have b1 := A.k1
    have b2 := A.k2
    have b3 := A.k3
    have b4 := A.k4
    clear A B
    refine wp_region_keep_tail 4 (by kernel_rfl) (by kernel_rfl) ?_
    simp only [List.take_succ_cons, List.take_zero, List.drop_succ_cons, List.drop_zero]
    repeat (go_big_quiet_step (first | (go_at_call 127; exact keep_of (squares_1 even _ ok2)) | (go_at_call 93; exact keep_of (mul_any _ _ _ (squaresF_ok _ ok2) hx))))
    refine wpQuiet_nil ?_
    intro s
    clear a0 a1 a2 a3 a4 b0 b1 b2 b3 b4 hne
    replace R := R.keep s.keep
    generalize s.w = W3 at R ⊢
    generalize mulF (squaresF 1 even) x = z at *
    obtain ⟨old, ge, hs, hf, c0, c1, c2, c3, c4⟩ := R
    have O := hide old
    clear old
    go_wp2
    refine bodyPost_ret (v := z.v) (by simp [results, Tryz.results126, go_sem, c0, c1, c2, c3, c4]) rfl ⟨by rw [HE.out], ?_⟩
    exact five O.out ge
open Go.RowKit
def eqw (f g : NI) : Nat → Nat → Bool
 | _, 0 => true
 | k, m + 1 => (f k == g k) && eqw f g (k + 1) m
theorem run_eqs_from (d n : Nat) (f g : NI) (w : World) : ∀ (m k : Nat), k + m ≤ n →
  Sem.run Tryz.prog (forIn (List.range' k m 1) ((none, ()) : Option Bool × Unit) fun i _ => do
   let a ← part 86 (arr n f) i
   let b ← part 86 (arr n g) i
   let r ← Op.equalIn (d + 1) 86 a b
   if (!r) = true then pure (ForInStep.done (some false, ())) else pure (ForInStep.yield (none, ()))) w = .ok (if eqw f g k m = true then none else some false, ()) w := by
 intro m
 induction m with
 | zero => intro k _; simp [eqw, Sem.run_pure]
 | succ m ih =>
  intro k hk
  have hp : ∀ h : Nat → Int, (part 86 (arr n h) k).run Tryz.prog w = .ok (.int .u64 (h k)) w := fun h => by
   have ha : (isAgg 86).run Tryz.prog w = .ok false w := by kernel_rfl
   simp [part, Sem.run_bind, ha, arr_get n h k (by omega)]
  simp only [List.range'_succ, List.forIn_cons, Sem.run_bind, hp, Result.andThen_ok, run_equalIn_int w d 86 .u64 .u64 (f k) (g k) Tryz.underlying86]
  cases hc : (f k == g k)
  ·simp [eqw, hc, Sem.run_pure]
  ·simp only [Bool.not_true, Bool.false_eq_true, if_false, Sem.run_pure, Result.andThen_ok, eqw, hc, Bool.true_and]
   exact ih (k + 1) (by omega)
theorem run_equalIn_words (d : Nat) (t : TypeId) (n : Nat) (f g : NI) (w : World) (ht : Tryz.prog.underlying t = some (.array n 86)) :
  (Op.equalIn (d + 1 + 1) t (.agg (arr n f)) (.agg (arr n g))).run Tryz.prog w = .ok (eqw f g 0 n) w := by
 have hz : (sizeOf 86).run Tryz.prog w = .ok 1 w := by kernel_rfl
 rw [Op.equalIn]
 simp only [Sem.run_bind, run_underlying ht, Result.andThen_ok, hz, Nat.mul_one]
 rw [Std.Legacy.Range.forIn_eq_forIn_range']
 have e : ([:n] : Std.Legacy.Range).size = n := by simp [Std.Legacy.Range.size]
 rw [e]
 have h := run_eqs_from d n f g w n 0 (by omega)
 rw [h]
 cases hc : eqw f g 0 n <;> simp [Sem.run_pure]
theorem run_eql_words (t : TypeId) (n : Nat) (f g : NI) (w : World) (ht : Tryz.prog.underlying t = some (.array n 86)) :
  (binOp .eql t (.agg (arr n f)) (.agg (arr n g))).run Tryz.prog w = .ok (.bool (eqw f g 0 n)) w := by
 rw [run_eql_struct, run_equalIn_words 9998 t n f g w ht]
 rfl
def E5.fn (x : E5) (i : Nat) : Int := [x.a, x.b, x.c, x.d, x.e].getD i 0
def eq5 (x y : E5) : Bool := eqw x.fn y.fn 0 5
theorem run_eql_e5 (x y : E5) (w : World) : (binOp .eql 114 x.v y.v).run Tryz.prog w = .ok (.bool (eq5 x y)) w :=
 run_eql_words 114 5 x.fn y.fn w Tryz.underlying114
theorem eq5_iff (x y : E5) : eq5 x y = true ↔ x = y := by
 obtain ⟨a, b, c, d, e⟩ := x
 obtain ⟨f, g, h, i, j⟩ := y
 simp only [eq5, eqw, E5.fn, E5.mk.injEq]
 simp
theorem eqw_iff (f g : NI) : ∀ (m k : Nat), eqw f g k m = true ↔ ∀ i, k ≤ i → i < k + m → f i = g i := by
 intro m
 induction m with
 | zero => intro k; simp only [eqw]; exact ⟨fun _ i h1 h2 => by omega, fun _ => trivial⟩
 | succ m ih =>
  intro k
  simp only [eqw, Bool.and_eq_true, beq_iff_eq, ih (k + 1)]
  constructor
  ·intro h i h1 h2
   by_cases e : i = k
   ·rw [e]; exact h.1
   ·exact h.2 i (by omega) (by omega)
  ·intro h
   exact ⟨h k (by omega) (by omega), fun i h1 h2 => h i (by omega) (by omega)⟩
open Go.RowKit
theorem low_inj {x y : E5} (hx : x.Low) (hy : y.Low) (h : x.n = y.n) : x = y := by
 obtain ⟨a, b, c, d, e⟩ := x
 obtain ⟨f, g, i, j, k⟩ := y
 obtain ⟨a0, a1, b0, b1, c0, c1, d0, d1, e0, e1⟩ := hx
 obtain ⟨f0, f1, g0, g1, h0, h1, i0, i1, j0, j1⟩ := hy
 simp only [E5.n] at *
 have h1 : a = f := by omega
 have h2 : b = g := by omega
 have h3 : c = i := by omega
 have h4 : d = j := by omega
 have h5 : e = k := by omega
 rw [h1, h2, h3, h4, h5]
theorem sameR {x y : E5} (hx : x.Ok) (hy : y.Ok) : eq5 (leastF x) (leastF y) = (x.n % Pm == y.n % Pm) := by
 rw [Bool.eq_iff_iff, eq5_iff, beq_iff_eq, ← leastF_n hx, ← leastF_n hy]
 exact ⟨fun h => by rw [h], fun h => low_inj (leastF_low x) (leastF_low y) h⟩
theorem same_any (x y : E5) (w : World) (hx : x.Ok) (hy : y.Ok) : Cs 69 #[x.v, y.v] w (.bool (x.n % Pm == y.n % Pm)) := by
 have hg : Tryz.prog.eqGuardType Tryz.prog.depth 114 = false := by kernel_rfl
 have he := run_eql_e5 (leastF x) (leastF y)
 go_enter Tryz.func69, Tryz.ntmps69
 go_wp2_with fail
 have A := (EAt.new w x 116).alloc (.cells #[.int .u64 y.a, .int .u64 y.b, .int .u64 y.c, .int .u64 y.d, .int .u64 y.e] 116)
 have B := EAt.new (w.alloc (.cells #[.int .u64 x.a, .int .u64 x.b, .int .u64 x.c, .int .u64 x.d, .int .u64 x.e] 116)) y 116
 rw [World.size_alloc] at B
 have O := hide (((Below.refl w.heap.size w).alloc (Nat.le_refl _) (.cells #[.int .u64 x.a, .int .u64 x.b, .int .u64 x.c, .int .u64 x.d, .int .u64 x.e] 116)).alloc (by simp) (.cells #[.int .u64 y.a, .int .u64 y.b, .int .u64 y.c, .int .u64 y.d, .int .u64 y.e] 116))
 generalize (w.alloc (.cells #[.int .u64 x.a, .int .u64 x.b, .int .u64 x.c, .int .u64 x.d, .int .u64 x.e] 116)).alloc (.cells #[.int .u64 y.a, .int .u64 y.b, .int .u64 y.c, .int .u64 y.d, .int .u64 y.e] 116) = W at A B O ⊢
 have hne := KW.some W
 have c0 := A.k0
 have d0 := B.k0
 have c1 := A.k1
 have d1 := B.k1
 have c2 := A.k2
 have d2 := B.k2
 have c3 := A.k3
 have d3 := B.k3
 have c4 := A.k4
 have d4 := B.k4
 clear A B
 refine wp_region_keep (by kernel_rfl) (by kernel_rfl) ?_
 repeat (go_big_quiet_step ((go_at_call 95; exact keep_of (least_any _ _ (by first | exact hx | exact hy)))))
 refine wpQuiet_nil ?_
 intro s
 have hw := O.out.trans (s.keep.mono O.out.size)
 have HR := hide (sameR hx hy)
 clear he hg c0 c1 c2 c3 c4 d0 d1 d2 d3 d4 O hne
 go_wp2
 go_ret
 exact ⟨by rw [← HR.out]; rfl, hw⟩
open Go.RowKit
theorem ones_250 (x : E5) (w : World) (hx : x.Ok) : Calls Tryz.prog 126 #[x.v, .int .u64 250] w fun r w' => r = .returned (onesF x 8 250).v ∧ Below w.heap.size w w' := ones_any x hx 8 250 w (by decide) (by decide)
theorem ones_2 (x : E5) (w : World) (hx : x.Ok) : Calls Tryz.prog 126 #[x.v, .int .u64 2] w fun r w' => r = .returned (onesF x 8 2).v ∧ Below w.heap.size w w' := ones_any x hx 8 2 w (by decide) (by decide)
def invF (x : E5) : E5 := mulF (mulF (squaresF 5 (onesF x 8 250)) (squaresF 3 x)) (onesF x 8 2)
theorem invF_ok {x : E5} (hx : x.Ok) : (invF x).Ok := mulF_ok (mulF_ok (squaresF_ok _ (onesF_ok hx _ _)) (squaresF_ok _ hx)) (onesF_ok hx _ _)
theorem inv_any (x : E5) (w : World) (hx : x.Ok) : Calls Tryz.prog 94 #[x.v] w fun r w' => r = .returned (invF x).v ∧ Below w.heap.size w w' := by
 have k1 := onesF_ok hx 8 250
 have k2 := onesF_ok hx 8 2
 have HE := hide (show invF x = mulF (mulF (squaresF 5 (onesF x 8 250)) (squaresF 3 x)) (onesF x 8 2) from rfl)
 go_enter Tryz.func94, Tryz.ntmps94
 go_wp2_with fail
 have R := Out.start1 w (.cells #[.int .u64 x.a, .int .u64 x.b, .int .u64 x.c, .int .u64 x.d, .int .u64 x.e] 116)
 have A := EAt.new1 w x (.cells #[.int .u64 0, .int .u64 0, .int .u64 0, .int .u64 0, .int .u64 0] 116)
 generalize (w.alloc (.cells #[.int .u64 x.a, .int .u64 x.b, .int .u64 x.c, .int .u64 x.d, .int .u64 x.e] 116)).alloc (.cells #[.int .u64 0, .int .u64 0, .int .u64 0, .int .u64 0, .int .u64 0] 116) = W at R A ⊢
 have hne := KW.some W
 have a0 := A.k0
 have a1 := A.k1
 have a2 := A.k2
 have a3 := A.k3
 have a4 := A.k4
 clear A
 refine wp_region_keep_tail 9 (by kernel_rfl) (by kernel_rfl) ?_
 simp only [List.take_succ_cons, List.take_zero, List.drop_succ_cons, List.drop_zero]
 iterate 1 go_big_quiet_step (fail)
 go_big_quiet_step ((exact keep_of (ones_250 x _ hx)))
 generalize onesF x 8 250 = y1 at *
 go_big_quiet_step ((exact keep_of (squares_5 y1 _ k1)))
 have k3 := squaresF_ok 5 k1
 generalize squaresF 5 y1 = y2 at *
 go_big_quiet_step (fail)
 go_big_quiet_step ((exact keep_of (squares_3 x _ hx)))
 have k4 := squaresF_ok 3 hx
 generalize squaresF 3 x = y3 at *
 go_big_quiet_step ((exact keep_of (mul_any y2 y3 _ k3 k4)))
 have k5 := mulF_ok k3 k4
 generalize mulF y2 y3 = y4 at *
 go_big_quiet_step (fail)
 go_big_quiet_step ((exact keep_of (ones_2 x _ hx)))
 generalize onesF x 8 2 = y5 at *
 go_big_quiet_step ((exact keep_of (mul_any y4 y5 _ k5 k2)))
 generalize mulF y4 y5 = z at *
 refine wpQuiet_nil ?_
 intro s
 clear a0 a1 a2 a3 a4 hne k1 k2 k3 k4 k5
 replace R := R.keep s.keep
 generalize s.w = W3 at R ⊢
 obtain ⟨old, ge, hs, hf, c0, c1, c2, c3, c4⟩ := R
 have O := hide old
 clear old
 go_wp2
 refine bodyPost_ret (v := z.v) (by simp [results, Tryz.results94, go_sem, c0, c1, c2, c3, c4]) rfl ⟨by rw [HE.out], ?_⟩
 exact five O.out ge
open Go.RowKit
def sqz (y : Int) : Nat → Int
 | 0 => y
 | n + 1 => sqz (y * y) n
def onz (x : Int) : Nat → Int
 | 0 => 1
 | k + 1 => onz x k * onz x k * x
theorem sqz_succ (n : Nat) : ∀ y, sqz y (n + 1) = sqz y n * sqz y n := by
 induction n with
 | zero => intro y; rfl
 | succ n ih => intro y; exact ih (y * y)
theorem onz_add (x : Int) (m : Nat) : ∀ k, onz x (m + k) = sqz (onz x m) k * onz x k
 | 0 => by simp [sqz, onz]
 | k + 1 => by
  have ih := onz_add x m k
  rw [← Nat.add_assoc]
  simp only [onz]
  rw [ih, sqz_succ]
  generalize sqz (onz x m) k = a
  generalize onz x k = b
  simp only [Int.mul_assoc, Int.mul_left_comm b a]
theorem sqz_cg {y z : Int} : ∀ {n : Nat}, Cg y z → Cg (sqz y n) (sqz z n) := by
 intro n
 induction n generalizing y z with
 | zero => intro h; exact h
 | succ n ih => intro h; exact ih (h.mul h)
theorem squaresF_n : ∀ (n : Nat) (x : E5), Cg (squaresF n x).n (sqz x.n n)
 | 0, _ => Cg.refl _
 | n + 1, x => (squaresF_n n (mulF x x)).trans (sqz_cg (mulF_n x x))
theorem onesF_n (x : E5) : ∀ (f n : Nat), n < 2 ^ f → Cg (onesF x f n).n (onz x.n n) := by
 intro f
 induction f with
 | zero =>
  intro n h
  have e : n = 0 := by omega
  subst e
  exact smallF_n 1
 | succ f ih =>
  intro n h
  unfold onesF
  by_cases h0 : n = 0
  ·rw [if_pos h0]
   subst h0
   exact smallF_n 1
  ·rw [if_neg h0]
   have hp : 2 ^ (f + 1) = 2 * 2 ^ f := by rw [Nat.pow_succ, Nat.mul_comm]
   have hh := ih (n / 2) (by omega)
   have he : Cg (mulF (squaresF (n / 2) (onesF x f (n / 2))) (onesF x f (n / 2))).n (onz x.n (n / 2 + n / 2)) := by
    rw [onz_add]
    exact (mulF_n _ _).trans (((squaresF_n _ _).trans (sqz_cg hh)).mul hh)
   by_cases h2 : n % 2 = 0
   ·rw [if_pos h2]
    rw [show n / 2 + n / 2 = n by omega] at he
    exact he
   ·rw [if_neg h2]
    refine (mulF_n _ _).trans ?_
    have e : onz x.n n = onz x.n (n / 2 + n / 2) * onz x.n (n / 2 + n / 2) * x.n := by
     rw [show onz x.n n = onz x.n (n / 2 + n / 2 + 1) by congr 1; omega]
     rfl
    rw [e]
    exact ((squaresF_n 1 _).trans (he.mul he)).mul (Cg.refl _)
theorem invF_n (x : E5) : Cg (invF x).n (sqz (onz x.n 250) 5 * sqz x.n 3 * onz x.n 2) := by
 unfold invF
 exact (mulF_n _ _).trans (((mulF_n _ _).trans (((squaresF_n 5 _).trans (sqz_cg (onesF_n x 8 250 (by decide)))).mul (squaresF_n 3 x))).mul (onesF_n x 8 2 (by decide)))
def pQ : Nat := 57896044618658097711785492504343953926634992332820282019728792003956564819948
abbrev pN : Nat := pQ + 1
theorem pN_P : (pN : Int) = Pm := by decide
open Go.RowKit
theorem digs4 {a b c d : Int} (ha : 0 ≤ a ∧ a < 65536) (hb : 0 ≤ b ∧ b < 65536) (hc : 0 ≤ c ∧ c < 65536) (_hd : 0 ≤ d ∧ d < 65536) :
  digs (a + 65536 * b + 4294967296 * c + 281474976710656 * d) = [a % 256, a / 256 % 256, b % 256, b / 256 % 256, c % 256, c / 256 % 256, d % 256, d / 256 % 256] := by
 unfold digs
 have h1 : (a + 65536 * b + 4294967296 * c + 281474976710656 * d) % 256 = a % 256 := by omega
 have h2 : (a + 65536 * b + 4294967296 * c + 281474976710656 * d) / 256 % 256 = a / 256 % 256 := by omega
 have h3 : (a + 65536 * b + 4294967296 * c + 281474976710656 * d) / 65536 % 256 = b % 256 := by omega
 have h4 : (a + 65536 * b + 4294967296 * c + 281474976710656 * d) / 16777216 % 256 = b / 256 % 256 := by omega
 have h5 : (a + 65536 * b + 4294967296 * c + 281474976710656 * d) / 4294967296 % 256 = c % 256 := by omega
 have h6 : (a + 65536 * b + 4294967296 * c + 281474976710656 * d) / 1099511627776 % 256 = c / 256 % 256 := by omega
 have h7 : (a + 65536 * b + 4294967296 * c + 281474976710656 * d) / 281474976710656 % 256 = d % 256 := by omega
 have h8 : (a + 65536 * b + 4294967296 * c + 281474976710656 * d) / 72057594037927936 % 256 = d / 256 % 256 := by omega
 rw [h1, h2, h3, h4, h5, h6, h7, h8]
theorem S16 (f : NI) : S f 16 = f 0 + f 1 * 65536 + f 2 * 4294967296 + f 3 * 281474976710656 + f 4 * 18446744073709551616 + f 5 * 1208925819614629174706176 + f 6 * 79228162514264337593543950336 + f 7 * 5192296858534827628530496329220096 + f 8 * 340282366920938463463374607431768211456 + f 9 * 22300745198530623141535718272648361505980416 + f 10 * 1461501637330902918203684832716283019655932542976 + f 11 * 95780971304118053647396689196894323976171195136475136 + f 12 * 6277101735386680763835789423207666416102355444464034512896 + f 13 * 411376139330301510538742295639337626245683966408394965837152256 + f 14 * 26959946667150639794667015087019630673637144422540572481103610249216 + f 15 * 1766847064778384329583297500742918515827483896875618958121606201292619776 := by
 simp [S]
theorem lebytes_S {f : NI} (hf : Dig f 16) : lebytes (S f 16) = bs (rb f 32) := by
 have h0 := hf 0 (by omega)
 have h1 := hf 1 (by omega)
 have h2 := hf 2 (by omega)
 have h3 := hf 3 (by omega)
 have h4 := hf 4 (by omega)
 have h5 := hf 5 (by omega)
 have h6 := hf 6 (by omega)
 have h7 := hf 7 (by omega)
 have h8 := hf 8 (by omega)
 have h9 := hf 9 (by omega)
 have h10 := hf 10 (by omega)
 have h11 := hf 11 (by omega)
 have h12 := hf 12 (by omega)
 have h13 := hf 13 (by omega)
 have h14 := hf 14 (by omega)
 have h15 := hf 15 (by omega)
 have e := S16 f
 have w0 : S f 16 % 18446744073709551616 = f 0 + 65536 * f 1 + 4294967296 * f 2 + 281474976710656 * f 3 := by rw [e]; omega
 have w1 : S f 16 / 18446744073709551616 % 18446744073709551616 = f 4 + 65536 * f 5 + 4294967296 * f 6 + 281474976710656 * f 7 := by rw [e]; omega
 have w2 : S f 16 / 340282366920938463463374607431768211456 % 18446744073709551616 = f 8 + 65536 * f 9 + 4294967296 * f 10 + 281474976710656 * f 11 := by rw [e]; omega
 have w3 : S f 16 / 6277101735386680763835789423207666416102355444464034512896 % 18446744073709551616 = f 12 + 65536 * f 13 + 4294967296 * f 14 + 281474976710656 * f 15 := by rw [e]; omega
 unfold lebytes
 rw [w0, w1, w2, w3, digs4 h0 h1 h2 h3, digs4 h4 h5 h6 h7, digs4 h8 h9 h10 h11, digs4 h12 h13 h14 h15]
 congr 1
 simp [rb, by16, List.range, List.range.loop]
open Go.RowKit
theorem Pm_pos : (0 : Int) < Pm := by decide
theorem Pm_16 : Pm < 65536 ^ 16 := by decide
theorem dS (M : Int) : S (d16 (M % Pm)) 16 = M % Pm := by
 have h0 := Int.emod_nonneg M (show Pm ≠ 0 by decide)
 have h1 := Int.emod_lt_of_pos M Pm_pos
 have h2 := Pm_16
 rw [d16_S _ h0, Int.emod_eq_of_lt h0 (by omega)]
open Go.RowKit
def barr (n : Nat) (f : Nat → Bool) : Array Value := ((List.range n).map fun i => Value.bool (f i)).toArray
theorem barr_size (n : Nat) (f : Nat → Bool) : (barr n f).size = n := by simp [barr]
theorem barr_get (n : Nat) (f : Nat → Bool) (i : Nat) (h : i < n) : (barr n f)[i]? = some (.bool (f i)) := by simp [barr, h]
theorem barr_congr {n : Nat} {f g : Nat → Bool} (h : ∀ i, i < n → f i = g i) : barr n f = barr n g := by
 unfold barr
 congr 1
 exact List.map_congr_left fun i hi => by rw [h i (List.mem_range.1 hi)]
def bupd (f : Nat → Bool) (k : Nat) (v : Bool) : Nat → Bool := fun i => if i = k then v else f i
theorem barr_set (n : Nat) (f : Nat → Bool) (k : Nat) (v : Bool) : (barr n f).setIfInBounds k (.bool v) = barr n (bupd f k v) := by
 apply Array.ext_getElem?
 intro i
 by_cases hi : i < n
 ·rw [Array.getElem?_setIfInBounds, barr_get n (bupd f k v) i hi]
  by_cases hk : k = i
  ·subst hk
   rw [if_pos rfl, if_pos (by rw [barr_size]; exact hi)]
   simp [bupd]
  ·have : ¬ i = k := fun h => hk h.symm
   rw [if_neg hk, barr_get n f i hi]
   simp [bupd, this]
 ·rw [Array.getElem?_eq_none (by simp [barr_size]; omega), Array.getElem?_eq_none (by simp [barr_size]; omega)]
def Brow (w : World) (g : Nat) (n : Nat) (f : Nat → Bool) : Prop := w.heap[g]? = some (.cells (barr n f) 4 (0, 0))
theorem Brow.lt {w : World} {g n : Nat} {f : Nat → Bool} (h : Brow w g n f) : g < w.heap.size := by
 by_cases hlt : g < w.heap.size
 ·exact hlt
 ·have hn : w.heap[g]? = none := by simp; omega
  rw [Brow, hn] at h
  cases h
theorem Brow.cell {w : World} {g n : Nat} {f : Nat → Bool} (h : Brow w g n f) {i : Nat} (hi : i < n) : w.cell? ⟨g, i, none⟩ = some (.bool (f i)) := by
 rw [cell_of_row w g i (barr n f) 4 (0, 0) h, barr_get n f i hi]
theorem Brow.free {w : World} {g n : Nat} {f : Nat → Bool} (h : Brow w g n f) (i : Nat) : w.frozen? ⟨g, i, none⟩ = false := frozen_of_row w g i (barr n f) 4 h
theorem Brow.set {w : World} {g n : Nat} {f : Nat → Bool} (h : Brow w g n f) (k : Nat) (v : Bool) : Brow (w.setCell ⟨g, k, none⟩ (.bool v)) g n (bupd f k v) := by
 unfold Brow
 rw [heap_setCell_same w g k (barr n f) 4 _ h, barr_set]
theorem Brow.keep {w w' : World} {g n : Nat} {f : Nat → Bool} (h : Brow w g n f) (hb : Below w.heap.size w w') : Brow w' g n f := by
 unfold Brow
 rw [hb.block g h.lt]
 exact h
theorem Brow.congr {w : World} {g n : Nat} {f f' : Nat → Bool} (h : Brow w g n f) (e : ∀ i, i < n → f i = f' i) : Brow w g n f' := by
 unfold Brow
 rw [← barr_congr e]
 exact h
theorem Brow.new (w : World) (n : Nat) (f : Nat → Bool) : Brow (w.alloc (.cells (barr n f) 4)) w.heap.size n f := heap_alloc_new w _
def xbit (n k i : Nat) : Bool := decide (8 ≤ n - 1 - i) || Nat.testBit (256 - k) (n - 1 - i)
def xbw (n k j : Nat) : Nat → Bool := fun i => decide (i < j) && xbit n k i
theorem xbw_next (n k j i : Nat) {v : Bool} (hv : v = xbit n k j) : bupd (xbw n k j) j v i = xbw n k (j + 1) i := by
 unfold bupd xbw
 by_cases h : i = j
 ·subst h
  simp [hv]
 ·rw [if_neg h]
  by_cases h2 : i < j
  ·simp [h2, show i < j + 1 by omega]
  ·simp [h2, show ¬ i < j + 1 by omega]
theorem bits_255 (w : World) : Calls Tryz.prog 64 #[.int .i64 255, .int .i64 21] w fun r w' => ∃ b, r = .returned (.slice (some ⟨b, 0, none⟩) 255 255) ∧ w.heap.size ≤ b ∧ Brow w' b 255 (xbit 255 21) ∧ Below w.heap.size w w' := by
 have hmk : ∀ w, (Instr.makeSlice 111 (.int .i64 255) (.int .i64 255)).run Tryz.prog w = .ok (.slice (some ⟨w.heap.size, 0, none⟩) 255 255) (w.alloc (.cells (barr 255 fun _ => false) 4)) := fun _ => by kernel_rfl
 go_enter Tryz.func64, Tryz.ntmps64
 go_wp2
 clear hmk
 have R := Brow.new w 255 fun _ => false
 have O := new_below w (.cells (barr 255 fun _ => false) 4)
 generalize w.alloc (.cells (barr 255 fun _ => false) 4) = W at R O ⊢
 go_loopw [7] (fun i wr => ∃ j : Nat, j ≤ 255 ∧ i = .int .i64 j ∧ Brow wr w.heap.size 255 (xbw 255 21 j) ∧ Below w.heap.size w wr) (fun i _ => 255 - (intOf i).toNat)
 case atStart => exact ⟨0, by omega, rfl, R.congr (fun i _ => by simp [xbw]), O⟩
 case round =>
  clear R O
  obtain ⟨j, hj, rfl, R, O⟩ := hrel
  by_cases h1 : j < 247
  ·have c := R.cell (i := j) (by omega)
   have e := R.free j
   have i1 : (0 : Int) ≤ (j : Int) := by omega
   have i2 : (j : Int) < 247 := by omega
   have RR := hide ((R.set j true).congr (f' := xbw 255 21 (j + 1)) (fun i _ => xbw_next 255 21 j i (by unfold xbit; rw [decide_eq_true (by omega)]; rfl)))
   have O' := hide (O.setCell (p := ⟨w.heap.size, j, none⟩) (Nat.le_refl _) (.bool true))
   clear R O
   go_wp2
   go_roundw
   case rel => exact ⟨j + 1, by omega, by go_num, RR.out, O'.out⟩
   case measure => simp [intOf]; omega
  ·by_cases h2 : j < 255
   ·rcases (show j = 247 ∨ j = 248 ∨ j = 249 ∨ j = 250 ∨ j = 251 ∨ j = 252 ∨ j = 253 ∨ j = 254 by omega) with rfl | rfl | rfl | rfl | rfl | rfl | rfl | rfl
    ·have c := R.cell (i := 247) (by omega)
     have e := R.free 247
     have RR := hide ((R.set 247 true).congr (f' := xbw 255 21 (247 + 1)) (fun i _ => xbw_next 255 21 247 i (by decide)))
     have O' := hide (O.setCell (p := ⟨w.heap.size, 247, none⟩) (Nat.le_refl _) (.bool true))
     clear R O
     go_wp2
     go_roundw
     case rel => exact ⟨248, by omega, rfl, RR.out, O'.out⟩
     case measure => simp [intOf]
    ·have c := R.cell (i := 248) (by omega)
     have e := R.free 248
     have RR := hide ((R.set 248 true).congr (f' := xbw 255 21 (248 + 1)) (fun i _ => xbw_next 255 21 248 i (by decide)))
     have O' := hide (O.setCell (p := ⟨w.heap.size, 248, none⟩) (Nat.le_refl _) (.bool true))
     clear R O
     go_wp2
     go_roundw
     case rel => exact ⟨249, by omega, rfl, RR.out, O'.out⟩
     case measure => simp [intOf]
    ·have c := R.cell (i := 249) (by omega)
     have e := R.free 249
     have RR := hide ((R.set 249 true).congr (f' := xbw 255 21 (249 + 1)) (fun i _ => xbw_next 255 21 249 i (by decide)))
     have O' := hide (O.setCell (p := ⟨w.heap.size, 249, none⟩) (Nat.le_refl _) (.bool true))
     clear R O
     go_wp2
     go_roundw
     case rel => exact ⟨250, by omega, rfl, RR.out, O'.out⟩
     case measure => simp [intOf]
    ·have c := R.cell (i := 250) (by omega)
     have e := R.free 250
     have RR := hide ((R.set 250 false).congr (f' := xbw 255 21 (250 + 1)) (fun i _ => xbw_next 255 21 250 i (by decide)))
     have O' := hide (O.setCell (p := ⟨w.heap.size, 250, none⟩) (Nat.le_refl _) (.bool false))
     clear R O
     go_wp2
     go_roundw
     case rel => exact ⟨251, by omega, rfl, RR.out, O'.out⟩
     case measure => simp [intOf]
    ·have c := R.cell (i := 251) (by omega)
     have e := R.free 251
     have RR := hide ((R.set 251 true).congr (f' := xbw 255 21 (251 + 1)) (fun i _ => xbw_next 255 21 251 i (by decide)))
     have O' := hide (O.setCell (p := ⟨w.heap.size, 251, none⟩) (Nat.le_refl _) (.bool true))
     clear R O
     go_wp2
     go_roundw
     case rel => exact ⟨252, by omega, rfl, RR.out, O'.out⟩
     case measure => simp [intOf]
    ·have c := R.cell (i := 252) (by omega)
     have e := R.free 252
     have RR := hide ((R.set 252 false).congr (f' := xbw 255 21 (252 + 1)) (fun i _ => xbw_next 255 21 252 i (by decide)))
     have O' := hide (O.setCell (p := ⟨w.heap.size, 252, none⟩) (Nat.le_refl _) (.bool false))
     clear R O
     go_wp2
     go_roundw
     case rel => exact ⟨253, by omega, rfl, RR.out, O'.out⟩
     case measure => simp [intOf]
    ·have c := R.cell (i := 253) (by omega)
     have e := R.free 253
     have RR := hide ((R.set 253 true).congr (f' := xbw 255 21 (253 + 1)) (fun i _ => xbw_next 255 21 253 i (by decide)))
     have O' := hide (O.setCell (p := ⟨w.heap.size, 253, none⟩) (Nat.le_refl _) (.bool true))
     clear R O
     go_wp2
     go_roundw
     case rel => exact ⟨254, by omega, rfl, RR.out, O'.out⟩
     case measure => simp [intOf]
    ·have c := R.cell (i := 254) (by omega)
     have e := R.free 254
     have RR := hide ((R.set 254 true).congr (f' := xbw 255 21 (254 + 1)) (fun i _ => xbw_next 255 21 254 i (by decide)))
     have O' := hide (O.setCell (p := ⟨w.heap.size, 254, none⟩) (Nat.le_refl _) (.bool true))
     clear R O
     go_wp2
     go_roundw
     case rel => exact ⟨255, by omega, rfl, RR.out, O'.out⟩
     case measure => simp [intOf]
   ·have hj' : j = 255 := by omega
    subst hj'
    have RR := hide (R.congr (f' := xbit 255 21) (fun i hi => by unfold xbw; rw [decide_eq_true hi]; rfl))
    clear R
    go_wp2
    go_ret
    exact ⟨w.heap.size, rfl, Nat.le_refl _, RR.out, O⟩
open Go.RowKit
def rw1 (a b : NI) (i k : Nat) : Nat → Int := fun j => if i ≤ j ∧ j < i + k then a i * b (j - i) else 0
def mp (a b : NI) : Nat → Nat → Int
 | 0, _ => 0
 | i + 1, j => mp a b i j + rw1 a b i 16 j
def mq (a b : NI) (i k : Nat) : Nat → Int := fun j => mp a b i j + rw1 a b i k j
theorem S_add' (f g : NI) : ∀ n, S (fun i => f i + g i) n = S f n + S g n
 | 0 => rfl
 | n + 1 => by
  have ih := S_add' f g n
  simp only [S]
  rw [ih, Int.add_mul]
  omega
theorem S_one (m : Nat) (v : Int) : ∀ n, S (fun j => if j = m then v else 0) n = if m < n then v * 65536 ^ m else 0
 | 0 => by simp [S]
 | n + 1 => by
  have ih := S_one m v n
  simp only [S]
  rw [ih]
  by_cases h1 : m < n
  ·rw [if_pos h1, if_neg (show ¬ n = m by omega), if_pos (show m < n + 1 by omega)]
   simp
  ·rw [if_neg h1]
   by_cases h2 : n = m
   ·subst h2
    rw [if_pos rfl, if_pos (by omega)]
    simp
   ·rw [if_neg h2, if_neg (show ¬ m < n + 1 by omega)]
    simp
theorem rw1_next (a b : NI) (i k j : Nat) : rw1 a b i (k + 1) j = rw1 a b i k j + if j = i + k then a i * b k else 0 := by
 unfold rw1
 by_cases h1 : j = i + k
 ·subst h1
  rw [if_pos (by omega), if_neg (by omega), if_pos rfl, show i + k - i = k by omega]
  omega
 ·rw [if_neg h1]
  by_cases h2 : i ≤ j ∧ j < i + k
  ·rw [if_pos h2, if_pos (by omega)]
   omega
  ·rw [if_neg h2, if_neg (by omega)]
   omega
theorem rw1_S (a b : NI) (i : Nat) : ∀ k, i + k ≤ 32 → S (rw1 a b i k) 32 = a i * 65536 ^ i * S b k
 | 0, _ => by
  rw [S_congr (g := fun _ => 0) fun j _ => by unfold rw1; rw [if_neg (by omega)], S_zero]
  simp [S]
 | k + 1, h => by
  have ih := rw1_S a b i k (by omega)
  rw [S_congr fun j _ => rw1_next a b i k j, S_add', ih, S_one, if_pos (by omega)]
  simp only [S]
  rw [Int.pow_add, Int.mul_add]
  congr 1
  rw [Int.mul_assoc, Int.mul_assoc, Int.mul_left_comm (65536 ^ i)]
theorem mp_S (a b : NI) : ∀ i, i ≤ 16 → S (mp a b i) 32 = S a i * S b 16
 | 0, _ => by
  show S (fun _ => 0) 32 = _
  rw [S_zero]
  simp [S]
 | i + 1, h => by
  have ih := mp_S a b i (by omega)
  have e : S (mp a b (i + 1)) 32 = S (fun j => mp a b i j + rw1 a b i 16 j) 32 := rfl
  rw [e, S_add', ih, rw1_S a b i 16 (by omega)]
  simp only [S]
  rw [Int.add_mul]
theorem dmul {x y : Int} (hx : 0 ≤ x ∧ x < 65536) (hy : 0 ≤ y ∧ y < 65536) : 0 ≤ x * y ∧ x * y ≤ 4294836225 := by
 refine ⟨Int.mul_nonneg hx.1 hy.1, ?_⟩
 have h1 : x * y ≤ 65535 * y := Int.mul_le_mul_of_nonneg_right (by omega) hy.1
 omega
theorem rw1_bd {a b : NI} (ha : Dig a 16) (hb : Dig b 16) {i k : Nat} (hi : i < 16) (hk : k ≤ 16) (j : Nat) : 0 ≤ rw1 a b i k j ∧ rw1 a b i k j ≤ 4294836225 := by
 unfold rw1
 by_cases h : i ≤ j ∧ j < i + k
 ·rw [if_pos h]
  exact dmul (ha i hi) (hb (j - i) (by omega))
 ·rw [if_neg h]
  omega
theorem mp_bd {a b : NI} (ha : Dig a 16) (hb : Dig b 16) (j : Nat) : ∀ i, i ≤ 16 → 0 ≤ mp a b i j ∧ mp a b i j ≤ 4294836225 * i
 | 0, _ => by simp [mp]
 | i + 1, h => by
  have ih := mp_bd ha hb j i (by omega)
  have h2 := rw1_bd ha hb (i := i) (k := 16) (by omega) (by omega) j
  simp only [mp]
  omega
theorem mp_48 {a b : NI} (ha : Dig a 16) (hb : Dig b 16) : B48 (mp a b 16) := ⟨fun j _ => by
 have := mp_bd ha hb j 16 (by omega)
 omega⟩
theorem mq_zero (a b : NI) (i j : Nat) : mq a b i 0 j = mp a b i j := by
 unfold mq rw1
 rw [if_neg (by omega)]
 omega
theorem mq_at (a b : NI) (i k : Nat) : mq a b i k (i + k) = mp a b i (i + k) := by
 unfold mq rw1
 rw [if_neg (by omega)]
 omega
theorem mq_next (a b : NI) (i k j : Nat) : upd (mq a b i k) (i + k) (mp a b i (i + k) + a i * b k) j = mq a b i (k + 1) j := by
 unfold upd
 by_cases h : j = i + k
 ·subst h
  rw [if_pos rfl]
  unfold mq
  rw [rw1_next, if_pos rfl]
  unfold rw1
  rw [if_neg (by omega)]
  omega
 ·rw [if_neg h]
  unfold mq
  rw [rw1_next, if_neg h]
  omega
open Go.RowKit
theorem rmul_any (a b : NI) (w : World) (ha : Dig a 16) (hb : Dig b 16) : Cs 41 #[.agg (arr 16 a), .agg (arr 16 b)] w (.agg (arr 16 (d16 ((S a 16 * S b 16) % Pm)))) := by
 go_enter Tryz.func41, Tryz.ntmps41
 go_wp2
 rw [show #[Value.int .u64 0, Value.int .u64 0, Value.int .u64 0, Value.int .u64 0, Value.int .u64 0, Value.int .u64 0, Value.int .u64 0, Value.int .u64 0, Value.int .u64 0, Value.int .u64 0, Value.int .u64 0, Value.int .u64 0, Value.int .u64 0, Value.int .u64 0, Value.int .u64 0, Value.int .u64 0] = arr 16 (fun _ => 0) from rfl, show #[Value.int .u64 0, Value.int .u64 0, Value.int .u64 0, Value.int .u64 0, Value.int .u64 0, Value.int .u64 0, Value.int .u64 0, Value.int .u64 0, Value.int .u64 0, Value.int .u64 0, Value.int .u64 0, Value.int .u64 0, Value.int .u64 0, Value.int .u64 0, Value.int .u64 0, Value.int .u64 0, Value.int .u64 0, Value.int .u64 0, Value.int .u64 0, Value.int .u64 0, Value.int .u64 0, Value.int .u64 0, Value.int .u64 0, Value.int .u64 0, Value.int .u64 0, Value.int .u64 0, Value.int .u64 0, Value.int .u64 0, Value.int .u64 0, Value.int .u64 0, Value.int .u64 0, Value.int .u64 0] = arr 32 (fun _ => 0) from rfl]
 have R1 : Row ((((w.alloc (.cells (arr 16 a) 88)).alloc (.cells (arr 16 b) 88)).alloc (.cells (arr 16 fun _ => 0) 88)).alloc (.cells (arr 32 fun _ => 0) 108)) w.heap.size 88 16 a := (((Row.new w 88 16 a).alloc _).alloc _).alloc _
 have R2 : Row ((((w.alloc (.cells (arr 16 a) 88)).alloc (.cells (arr 16 b) 88)).alloc (.cells (arr 16 fun _ => 0) 88)).alloc (.cells (arr 32 fun _ => 0) 108)) (w.heap.size + 1) 88 16 b := ((Row.new' _ 88 16 _ (by simp)).alloc _).alloc _
 have R3 : Row ((((w.alloc (.cells (arr 16 a) 88)).alloc (.cells (arr 16 b) 88)).alloc (.cells (arr 16 fun _ => 0) 88)).alloc (.cells (arr 32 fun _ => 0) 108)) (w.heap.size + 1 + 1) 88 16 (fun _ => 0) := (Row.new' _ 88 16 _ (by simp)).alloc _
 have R4 : Row ((((w.alloc (.cells (arr 16 a) 88)).alloc (.cells (arr 16 b) 88)).alloc (.cells (arr 16 fun _ => 0) 88)).alloc (.cells (arr 32 fun _ => 0) 108)) (w.heap.size + 1 + 1 + 1) 108 32 (fun _ => 0) := Row.new' _ 108 32 _ (by simp)
 have O : Below w.heap.size w ((((w.alloc (.cells (arr 16 a) 88)).alloc (.cells (arr 16 b) 88)).alloc (.cells (arr 16 fun _ => 0) 88)).alloc (.cells (arr 32 fun _ => 0) 108)) := ((((Below.refl _ _).alloc (Nat.le_refl _) _).alloc (by simp) _).alloc (by simp; omega) _).alloc (by simp; omega) _
 generalize ((((w.alloc (.cells (arr 16 a) 88)).alloc (.cells (arr 16 b) 88)).alloc (.cells (arr 16 fun _ => 0) 88)).alloc (.cells (arr 32 fun _ => 0) 108)) = W at R1 R2 R3 R4 O ⊢
 go_loopw [6] (fun x wr => ∃ i : Nat, i ≤ 16 ∧ x = .int .i64 i ∧ Row wr w.heap.size 88 16 a ∧ Row wr (w.heap.size + 1) 88 16 b ∧ Row wr (w.heap.size + 1 + 1) 88 16 (fun _ => 0) ∧ Row wr (w.heap.size + 1 + 1 + 1) 108 32 (mp a b i) ∧ Below w.heap.size w wr) (fun x _ => 16 - (intOf x).toNat)
 case atStart => exact ⟨0, by omega, rfl, R1, R2, R3, R4, O⟩
 case round =>
  clear R1 R2 R3 R4 O
  obtain ⟨i, hi, rfl, R1, R2, R3, R4, O⟩ := hrel
  by_cases hlt : i < 16
  ·go_wp2
   go_loopw [7] (fun y wq => ∃ k : Nat, k ≤ 16 ∧ y = .int .i64 k ∧ Row wq w.heap.size 88 16 a ∧ Row wq (w.heap.size + 1) 88 16 b ∧ Row wq (w.heap.size + 1 + 1) 88 16 (fun _ => 0) ∧ Row wq (w.heap.size + 1 + 1 + 1) 108 32 (mq a b i k) ∧ Below w.heap.size w wq) (fun y _ => 16 - (intOf y).toNat)
   case atStart => exact ⟨0, by omega, rfl, R1, R2, R3, R4.congr (fun j _ => (mq_zero a b i j).symm), O⟩
   case round =>
    clear R1 R2 R3 R4 O
    obtain ⟨k, hk, rfl, R1, R2, R3, R4, O⟩ := hrel
    by_cases hkl : k < 16
    ·have c := R1.cell hlt
     have d := R2.cell hkl
     have e := R4.cell (i := i + k) (by omega)
     rw [mq_at] at e
     have f := R4.free
     have hp := dmul (ha i hlt) (hb k hkl)
     have hm := mp_bd ha hb (i + k) i hi
     have i1 : (0 : Int) ≤ (i : Int) := by omega
     have i2 : (i : Int) < 16 := by omega
     have k1 : (0 : Int) ≤ (k : Int) := by omega
     have k2 : (k : Int) < 16 := by omega
     obtain ⟨p0, p1⟩ := hp
     obtain ⟨m0, m1⟩ := hm
     have m2 : mp a b i (i + k) < 100000000000 := by omega
     clear m1
     go_wp2_with fail
     go_region
     go_wp2
     exact ⟨⟨k + 1, by omega, by go_num, rowD (R1.other (a := ⟨w.heap.size + 1 + 1 + 1, i + k, none⟩) (by simp <;> omega) _), rowD (R2.other (a := ⟨w.heap.size + 1 + 1 + 1, i + k, none⟩) (by simp <;> omega) _), rowD (R3.other (a := ⟨w.heap.size + 1 + 1 + 1, i + k, none⟩) (by simp) _), rowD ((R4.set (i + k) (mp a b i (i + k) + a i * b k)).congr (fun j _ => mq_next a b i k j)), (O.setCell (p := ⟨w.heap.size + 1 + 1 + 1, i + k, none⟩) (by simp <;> omega) _).drew⟩, by simp [intOf]; omega⟩
    ·have hk' : k = 16 := by omega
     subst hk'
     go_wp2
     exact ⟨⟨i + 1, by omega, by go_num, R1, R2, R3, R4, O⟩, by simp [intOf]; omega⟩
  ·have hi' : i = 16 := by omega
   subst hi'
   have HR := hide R4
   clear R4 R1 R2
   go_wp2_with (refine wpList_load_row rfl 108 _ rfl (w.heap.size + 1 + 1 + 1) rfl 108 (arr 32 (mp a b 16)) (0, 0) _ HR.out Tryz.underlying108 rfl (info108 _) ?_)
   try rw [show ∀ (a : Act) (v : Value), a.put none v = a from fun _ _ => rfl]
   refine (reduce_any (mp a b 16) _ (mp_48 ha hb)).mono ?_
   rintro _ w3 ⟨rfl, hb3⟩
   replace R3 := R3.keep hb3
   replace O := O.trans (hb3.mono O.size)
   clear hb3 HR
   rw [mp_S a b 16 (by omega)]
   have RR := hide (R3.setAll (d16 ((S a 16 * S b 16) % Pm)))
   have OO := hide (below_setCells (g := w.heap.size + 1 + 1) (by omega) (arr 16 (d16 ((S a 16 * S b 16) % Pm))).toList 0 O)
   go_wp2_with (refine wpList_store_mid rfl 88 _ _ rfl (w.heap.size + 1 + 1) 0 (arr 16 (d16 ((S a 16 * S b 16) % Pm))) rfl rfl (by rw [arr_size]; exact R3.there) (info88 _) (arr_one _ _) ?_)
   exact bodyPost_ret (v := .agg (arr 16 (d16 ((S a 16 * S b 16) % Pm)))) (results_cell_row Tryz.results41 _ _ (w.heap.size + 1 + 1) 88 (arr 16 (d16 ((S a 16 * S b 16) % Pm))) (0, 0) _ rfl RR.out Tryz.underlying88 rfl (info88 _)) rfl ⟨rfl, OO.out⟩
open Go.RowKit
def pwm (x : Int) (f : Nat → Bool) : Nat → Int
 | 0 => 1
 | i + 1 => if f i = true then (pwm x f i * pwm x f i % Pm) * x % Pm else pwm x f i * pwm x f i % Pm
theorem pwm_bd (x : Int) (f : Nat → Bool) : ∀ i, 0 ≤ pwm x f i ∧ pwm x f i < Pm
 | 0 => by unfold pwm; exact ⟨by decide, by decide⟩
 | i + 1 => by
  unfold pwm
  have h : ∀ y : Int, 0 ≤ y % Pm ∧ y % Pm < Pm := fun y => ⟨Int.emod_nonneg y (by decide), Int.emod_lt_of_pos y Pm_pos⟩
  split
  ·exact h _
  ·exact h _
theorem bS {y : Int} (h : 0 ≤ y ∧ y < Pm) : S (d16 y) 16 = y := by
 have h2 := Pm_16
 rw [d16_S _ h.1, Int.emod_eq_of_lt h.1 (by omega)]
theorem power_any (a : NI) (n : Nat) (f : Nat → Bool) (b : Nat) (w : World) (ha : Dig a 16) (hB : Brow w b n f) (hn : n ≤ 300) : Cs 63 #[.agg (arr 16 a), .slice (some ⟨b, 0, none⟩) n n] w (.agg (arr 16 (d16 (pwm (S a 16) f n)))) := by
 have hb1 := hB.lt
 go_enter Tryz.func63, Tryz.ntmps63
 go_wp2_with fail
 rw [show #[Value.int .u64 0, Value.int .u64 0, Value.int .u64 0, Value.int .u64 0, Value.int .u64 0, Value.int .u64 0, Value.int .u64 0, Value.int .u64 0, Value.int .u64 0, Value.int .u64 0, Value.int .u64 0, Value.int .u64 0, Value.int .u64 0, Value.int .u64 0, Value.int .u64 0, Value.int .u64 0] = arr 16 (fun _ => 0) from rfl]
 have R1 : Row ((w.alloc (.cells (arr 16 a) 88)).alloc (.cells (arr 16 fun _ => 0) 88)) w.heap.size 88 16 a := (Row.new w 88 16 a).alloc _
 have R2 : Row ((w.alloc (.cells (arr 16 a) 88)).alloc (.cells (arr 16 fun _ => 0) 88)) (w.heap.size + 1) 88 16 (fun _ => 0) := Row.new' _ 88 16 _ (by simp)
 have O : Below w.heap.size w ((w.alloc (.cells (arr 16 a) 88)).alloc (.cells (arr 16 fun _ => 0) 88)) := ((Below.refl _ _).alloc (Nat.le_refl _) _).alloc (by simp) _
 have B := hB.keep O
 generalize (w.alloc (.cells (arr 16 a) 88)).alloc (.cells (arr 16 fun _ => 0) 88) = W at R1 R2 O B ⊢
 clear hB
 refine (rsmall_any 1 _ (by decide) (by decide)).mono ?_
 rintro _ w1 ⟨rfl, hb⟩
 replace R1 := R1.keep hb
 replace R2 := R2.keep hb
 replace B := B.keep hb
 replace O := O.trans (hb.mono O.size)
 clear hb
 have RX : Row (w1.alloc (.cells #[Value.int .u64 0, Value.int .u64 0, Value.int .u64 0, Value.int .u64 0, Value.int .u64 0, Value.int .u64 0, Value.int .u64 0, Value.int .u64 0, Value.int .u64 0, Value.int .u64 0, Value.int .u64 0, Value.int .u64 0, Value.int .u64 0, Value.int .u64 0, Value.int .u64 0, Value.int .u64 0] 88)) w1.heap.size 88 16 (fun _ => 0) := Row.new w1 88 16 (fun _ => 0)
 have RR := hide (RX.setAll (d16 1))
 have BB := below_setCells (g := w1.heap.size) (Nat.le_refl _) (arr 16 (d16 1)).toList 0 (new_below w1 (.cells #[Value.int .u64 0, Value.int .u64 0, Value.int .u64 0, Value.int .u64 0, Value.int .u64 0, Value.int .u64 0, Value.int .u64 0, Value.int .u64 0, Value.int .u64 0, Value.int .u64 0, Value.int .u64 0, Value.int .u64 0, Value.int .u64 0, Value.int .u64 0, Value.int .u64 0, Value.int .u64 0] 88))
 have gx := R2.lt
 have R1' := hide (R1.keep BB)
 have R2' := hide (R2.keep BB)
 have B' := hide (B.keep BB)
 have O' := hide (O.trans (BB.mono O.size))
 clear R1 R2 B O BB
 go_wp2_with (refine wpList_store_mid rfl 88 _ _ rfl w1.heap.size 0 (arr 16 (d16 1)) rfl rfl ?there (info88 _) (arr_one _ _) ?_)
 case there => rw [arr_size]; exact RX.there
 try rw [show ∀ (a : Act) (v : Value), a.put none v = a from fun _ _ => rfl]
 have R1 := R1'.out
 have R2 := R2'.out
 have B := B'.out
 have O := O'.out
 replace RX := RR.out
 clear R1' R2' B' O' RR
 generalize w1.heap.size = gX at *
 generalize (w1.alloc (.cells #[Value.int .u64 0, Value.int .u64 0, Value.int .u64 0, Value.int .u64 0, Value.int .u64 0, Value.int .u64 0, Value.int .u64 0, Value.int .u64 0, Value.int .u64 0, Value.int .u64 0, Value.int .u64 0, Value.int .u64 0, Value.int .u64 0, Value.int .u64 0, Value.int .u64 0, Value.int .u64 0] 88)).setCells gX 0 (arr 16 (d16 1)).toList = W2 at *
 go_loopw [6] (fun x wr => ∃ i : Nat, i ≤ n ∧ x = .int .i64 i ∧ Row wr w.heap.size 88 16 a ∧ Row wr (w.heap.size + 1) 88 16 (fun _ => 0) ∧ Row wr gX 88 16 (d16 (pwm (S a 16) f i)) ∧ Brow wr b n f ∧ Below w.heap.size w wr) (fun x _ => n - (intOf x).toNat)
 case atStart => exact ⟨0, by omega, rfl, R1, R2, RX, B, O⟩
 case round =>
  clear R1 R2 RX B O
  obtain ⟨i, hi, rfl, R1, R2, RX, B, O⟩ := hrel
  have hp := pwm_bd (S a 16) f i
  by_cases hlt : i < n
  ·have h1 : (i : Int) < (n : Int) := by omega
   have HP := hide hp
   have HX := hide RX
   clear hp RX
   go_wp2_with (refine wpList_load_row rfl 88 _ rfl gX rfl 88 (arr 16 (d16 (pwm (S a 16) f i))) (0, 0) _ HX.out Tryz.underlying88 rfl (info88 _) ?_)
   refine (rmul_any _ _ _ (d16_dig _ 16) (d16_dig _ 16)).mono ?_
   rintro _ w3 ⟨rfl, hb3⟩
   rw [bS HP.out]
   replace R1 := R1.keep hb3
   replace R2 := R2.keep hb3
   replace B := B.keep hb3
   have RX := HX.out.keep hb3
   replace O := O.trans (hb3.mono O.size)
   clear hb3 HX
   have hE : pwm (S a 16) f (i + 1) = if f i = true then (pwm (S a 16) f i * pwm (S a 16) f i % Pm) * S a 16 % Pm else pwm (S a 16) f i * pwm (S a 16) f i % Pm := rfl
   have HE := hide hE
   clear hE HP
   generalize pwm (S a 16) f i * pwm (S a 16) f i = Y at *
   have RR := hide (RX.setAll (d16 (Y % Pm)))
   have R1' := hide (R1.setOther (k := gX) (by omega) 0 (arr 16 (d16 (Y % Pm))).toList)
   have R2' := hide (R2.setOther (k := gX) (by omega) 0 (arr 16 (d16 (Y % Pm))).toList)
   have B' : Hid (Brow (w3.setCells gX 0 (arr 16 (d16 (Y % Pm))).toList) b n f) := hide (by
    unfold Brow
    rw [heap_setCells_other gX b (by omega)]
    exact B)
   have O' := hide (below_setCells (g := gX) (by omega) (arr 16 (d16 (Y % Pm))).toList 0 O)
   clear R1 R2 B O
   have BC := B'.out.cell hlt
   cases hf : f i
   ·rw [hf] at BC HE
    go_wp2_with (refine wpList_store_mid rfl 88 _ _ rfl gX 0 (arr 16 (d16 (Y % Pm))) rfl rfl ?there (info88 _) (arr_one _ _) ?_)
    case there => rw [arr_size]; exact RX.there
    go_roundw
    case rel => exact ⟨i + 1, by omega, by go_num, R1'.out, R2'.out, by rw [HE.out]; exact RR.out, B'.out, O'.out⟩
    case measure => simp [intOf]; omega
   ·rw [hf] at BC HE
    go_wp2_with (first | (refine wpList_store_mid rfl 88 _ _ rfl gX 0 (arr 16 (d16 (Y % Pm))) rfl rfl ?there (info88 _) (arr_one _ _) ?_) | (refine wpList_load_row rfl 88 _ rfl gX rfl 88 (arr 16 (d16 (Y % Pm))) (0, 0) _ RR.out Tryz.underlying88 rfl (info88 _) ?_) | (refine wpList_load_row rfl 88 _ rfl w.heap.size rfl 88 (arr 16 a) (0, 0) _ R1'.out Tryz.underlying88 rfl (info88 _) ?_))
    case there => rw [arr_size]; exact RX.there
    refine (rmul_any _ _ _ (d16_dig _ 16) ha).mono ?_
    rintro _ w5 ⟨rfl, hb5⟩
    rw [dS]
    rw [if_pos trivial] at HE
    have R1 := R1'.out.keep hb5
    have R2 := R2'.out.keep hb5
    have B := B'.out.keep hb5
    have RY := RR.out.keep hb5
    have O := O'.out.trans (hb5.mono O'.out.size)
    clear hb5 R1' R2' B' RR O' BC RX
    generalize Y % Pm * S a 16 = Y2 at *
    have RR := hide (RY.setAll (d16 (Y2 % Pm)))
    have R1' := hide (R1.setOther (k := gX) (by omega) 0 (arr 16 (d16 (Y2 % Pm))).toList)
    have R2' := hide (R2.setOther (k := gX) (by omega) 0 (arr 16 (d16 (Y2 % Pm))).toList)
    have B' : Hid (Brow (w5.setCells gX 0 (arr 16 (d16 (Y2 % Pm))).toList) b n f) := hide (by
     unfold Brow
     rw [heap_setCells_other gX b (by omega)]
     exact B)
    have O' := hide (below_setCells (g := gX) (by omega) (arr 16 (d16 (Y2 % Pm))).toList 0 O)
    clear R1 R2 B O
    go_wp2_with (refine wpList_store_mid rfl 88 _ _ rfl gX 0 (arr 16 (d16 (Y2 % Pm))) rfl rfl ?there (info88 _) (arr_one _ _) ?_)
    case there => rw [arr_size]; exact RY.there
    go_roundw
    case rel => exact ⟨i + 1, by omega, by go_num, R1'.out, R2'.out, by rw [HE.out]; exact RR.out, B'.out, O'.out⟩
    case measure => simp [intOf]; omega
  ·have hi' : i = n := by omega
   subst hi'
   have RR := hide (R2.setAll (d16 (pwm (S a 16) f i)))
   have OO := hide (below_setCells (g := w.heap.size + 1) (by omega) (arr 16 (d16 (pwm (S a 16) f i))).toList 0 O)
   clear hp R1 B O
   go_wp2_with (first | (refine wpList_load_row rfl 88 _ rfl gX rfl 88 (arr 16 (d16 (pwm (S a 16) f i))) (0, 0) _ RX Tryz.underlying88 rfl (info88 _) ?_) | (refine wpList_store_mid rfl 88 _ _ rfl (w.heap.size + 1) 0 (arr 16 (d16 (pwm (S a 16) f i))) rfl rfl ?there (info88 _) (arr_one _ _) ?_))
   case there => rw [arr_size]; exact R2.there
   exact bodyPost_ret (v := .agg (arr 16 (d16 (pwm (S a 16) f i)))) (results_cell_row Tryz.results63 _ _ (w.heap.size + 1) 88 (arr 16 (d16 (pwm (S a 16) f i))) (0, 0) _ rfl RR.out Tryz.underlying88 rfl (info88 _)) rfl ⟨rfl, OO.out⟩
open Go.RowKit
theorem rinv_any (a : NI) (w : World) (ha : Dig a 16) : Cs 43 #[.agg (arr 16 a)] w (.agg (arr 16 (d16 (pwm (S a 16) (xbit 255 21) 255)))) := by
 go_enter Tryz.func43, Tryz.ntmps43
 go_wp2_with fail
 rw [show #[Value.int .u64 0, Value.int .u64 0, Value.int .u64 0, Value.int .u64 0, Value.int .u64 0, Value.int .u64 0, Value.int .u64 0, Value.int .u64 0, Value.int .u64 0, Value.int .u64 0, Value.int .u64 0, Value.int .u64 0, Value.int .u64 0, Value.int .u64 0, Value.int .u64 0, Value.int .u64 0] = arr 16 (fun _ => 0) from rfl]
 have R1 : Row ((w.alloc (.cells (arr 16 a) 88)).alloc (.cells (arr 16 fun _ => 0) 88)) w.heap.size 88 16 a := (Row.new w 88 16 a).alloc _
 have R2 : Row ((w.alloc (.cells (arr 16 a) 88)).alloc (.cells (arr 16 fun _ => 0) 88)) (w.heap.size + 1) 88 16 (fun _ => 0) := Row.new' _ 88 16 _ (by simp)
 have O : Below w.heap.size w ((w.alloc (.cells (arr 16 a) 88)).alloc (.cells (arr 16 fun _ => 0) 88)) := ((Below.refl _ _).alloc (Nat.le_refl _) _).alloc (by simp) _
 generalize ((w.alloc (.cells (arr 16 a) 88)).alloc (.cells (arr 16 fun _ => 0) 88)) = W at R1 R2 O ⊢
 refine region_cut (fun a0 a' w' => ∃ b : Nat, a' = ((a0.put (some 3) (.agg (arr 16 a))).put (some 4) (.slice (some ⟨b, 0, none⟩) 255 255)).put (some 5) (.agg (arr 16 (d16 (pwm (S a 16) (xbit 255 21) 255)))) ∧ Row w' (w.heap.size + 1) 88 16 (d16 (pwm (S a 16) (xbit 255 21) 255)) ∧ Below w.heap.size w w') (by kernel_rfl) ?_ ?_
 ·clear R1 R2 O
  rintro _ w' ⟨b, rfl, R, O⟩
  go_wp2
  exact bodyPost_ret (v := .agg (arr 16 (d16 (pwm (S a 16) (xbit 255 21) 255)))) (results_cell_row Tryz.results43 _ _ (w.heap.size + 1) 88 (arr 16 (d16 (pwm (S a 16) (xbit 255 21) 255))) (0, 0) _ rfl R Tryz.underlying88 rfl (info88 _)) rfl ⟨rfl, O⟩
 ·intro hrest
  replace R1 := rowD R1
  replace R2 := rowD R2
  replace O := O.drew
  refine wpAny_ready (rs := [0, 1]) (by kernel_rfl) (by simp) ?_
  refine ready_load rfl rfl 88 _ rfl w.heap.size (by kernel_rfl) 88 (arr 16 a) (0, 0) _ R1 Tryz.underlying88 rfl (info88 _) ?_ ?_
  ·skip
   refine wpAny_ready (rs := [1]) (by kernel_rfl) (by simp) ?_
   refine ready_call 64 #[.int .i64 255, .int .i64 21] rfl rfl (by kernel_rfl) ?_ ?_
   ·refine (bits_255 _).mono ?_
    rintro _ w2 ⟨b, rfl, _, HB, hb2⟩
    refine ⟨_, rfl, ?_⟩
    replace R1 := R1.keep hb2
    replace R2 := R2.keep hb2
    replace O := O.trans (hb2.mono O.size)
    clear hb2
    refine wpAny_ready (rs := [2]) (by kernel_rfl) (by simp) ?_
    refine ready_call 63 #[.agg (arr 16 a), .slice (some ⟨b, 0, none⟩) 255 255] rfl rfl (by kernel_rfl) ?_ ?_
    ·refine (power_any a 255 _ b _ ha HB (by decide)).mono ?_
     rintro _ w3 ⟨rfl, hb3⟩
     refine ⟨_, rfl, ?_⟩
     replace R1 := R1.keep hb3
     replace R2 := R2.keep hb3
     replace HB := HB.keep hb3
     replace O := O.trans (hb3.mono O.size)
     clear hb3
     refine wpAny_ready (rs := [3]) (by kernel_rfl) (by simp) ?_
     refine ready_store rfl rfl 88 _ _ rfl (w.heap.size + 1) 0 (arr 16 (d16 (pwm (S a 16) (xbit 255 21) 255))) (by kernel_rfl) (by kernel_rfl) (by rw [arr_size]; exact R2.there) (info88 _) (arr_one _ _) ?_ ?_
     ·skip
      exact wpAny_done (by kernel_rfl) (hrest _ _ ⟨b, by kernel_rfl, R2.setAll _, below_setCells (by omega) _ _ O⟩) _
     exact AllReady.nil
    exact AllReady.nil
   exact AllReady.nil
  refine ready_call 64 #[.int .i64 255, .int .i64 21] rfl rfl (by kernel_rfl) ?_ ?_
  ·refine (bits_255 _).mono ?_
   rintro _ w5 ⟨b, rfl, _, HB, hb5⟩
   refine ⟨_, rfl, ?_⟩
   replace R1 := R1.keep hb5
   replace R2 := R2.keep hb5
   replace O := O.trans (hb5.mono O.size)
   clear hb5
   refine wpAny_ready (rs := [0]) (by kernel_rfl) (by simp) ?_
   refine ready_load rfl rfl 88 _ rfl w.heap.size (by kernel_rfl) 88 (arr 16 a) (0, 0) _ R1 Tryz.underlying88 rfl (info88 _) ?_ ?_
   ·skip
    refine wpAny_ready (rs := [2]) (by kernel_rfl) (by simp) ?_
    refine ready_call 63 #[.agg (arr 16 a), .slice (some ⟨b, 0, none⟩) 255 255] rfl rfl (by kernel_rfl) ?_ ?_
    ·refine (power_any a 255 _ b _ ha HB (by decide)).mono ?_
     rintro _ w7 ⟨rfl, hb7⟩
     refine ⟨_, rfl, ?_⟩
     replace R1 := R1.keep hb7
     replace R2 := R2.keep hb7
     replace HB := HB.keep hb7
     replace O := O.trans (hb7.mono O.size)
     clear hb7
     refine wpAny_ready (rs := [3]) (by kernel_rfl) (by simp) ?_
     refine ready_store rfl rfl 88 _ _ rfl (w.heap.size + 1) 0 (arr 16 (d16 (pwm (S a 16) (xbit 255 21) 255))) (by kernel_rfl) (by kernel_rfl) (by rw [arr_size]; exact R2.there) (info88 _) (arr_one _ _) ?_ ?_
     ·skip
      exact wpAny_done (by kernel_rfl) (hrest _ _ ⟨b, by kernel_rfl, R2.setAll _, below_setCells (by omega) _ _ O⟩) _
     exact AllReady.nil
    exact AllReady.nil
   exact AllReady.nil
  exact AllReady.nil
open Go.RowKit
theorem Cg.pow {x y : Int} (h : Cg x y) : ∀ n : Nat, Cg (x ^ n) (y ^ n)
 | 0 => by rw [Int.pow_zero, Int.pow_zero]; exact Cg.refl _
 | n + 1 => by
  rw [Int.pow_succ, Int.pow_succ]
  exact (Cg.pow h n).mul h
theorem sqz_pow : ∀ (n : Nat) (y : Int), sqz y n = y ^ (2 ^ n)
 | 0, y => by simp [sqz, Int.pow_succ]
 | n + 1, y => by
  unfold sqz
  rw [sqz_pow n, Nat.pow_succ, Nat.mul_comm, Int.pow_mul, Int.pow_succ, Int.pow_succ, Int.pow_zero, Int.one_mul]
theorem onz_pow (x : Int) : ∀ n : Nat, onz x n = x ^ (2 ^ n - 1)
 | 0 => by simp [onz]
 | n + 1 => by
  have hp : 0 < 2 ^ n := Nat.two_pow_pos n
  unfold onz
  rw [onz_pow x n, ← Int.pow_add, ← Int.pow_succ]
  congr 1
  rw [Nat.pow_succ]
  omega
def exf (f : Nat → Bool) : Nat → Nat
 | 0 => 0
 | i + 1 => 2 * exf f i + (f i).toNat
theorem pwm_pow (x : Int) (f : Nat → Bool) : ∀ i, Cg (pwm x f i) (x ^ exf f i)
 | 0 => by simp [pwm, exf]; exact Cg.refl _
 | i + 1 => by
  have ih := pwm_pow x f i
  have h2 : Cg (pwm x f i * pwm x f i % Pm) (x ^ (2 * exf f i)) := by
   refine (cg_emod _).trans ?_
   rw [Nat.two_mul, Int.pow_add]
   exact ih.mul ih
  unfold pwm exf
  cases hf : f i
  ·rw [if_neg (by simp)]
   exact h2
  ·rw [if_pos rfl]
   refine (cg_emod _).trans ?_
   rw [Bool.toNat_true, Int.pow_succ]
   exact h2.mul (Cg.refl x)
theorem ex255 : exf (xbit 255 21) 255 = 2 ^ 255 - 21 := by decide +kernel
theorem invF_pow (x : E5) : Cg (invF x).n (x.n ^ (2 ^ 255 - 21)) := by
 refine (invF_n x).trans (Cg.of_eq ?_)
 rw [sqz_pow, sqz_pow, onz_pow, onz_pow, ← Int.pow_mul, ← Int.pow_add, ← Int.pow_add]
theorem rinv_val {x : E5} {A : Int} (h : Cg x.n A) : Cg (invF x).n (pwm A (xbit 255 21) 255) := by
 refine (invF_pow x).trans ((h.pow _).trans ?_)
 rw [← ex255]
 exact (pwm_pow A _ 255).symm
open Go.RowKit
def ad (a b : NI) (k : Nat) : Nat → Int := fun i => wid a 16 i + if i < k then b i else 0
theorem ad_48 {a b : NI} (ha : Dig a 16) (hb : Dig b 16) : B48 (ad a b 16) := ⟨fun i _ => by
 unfold ad wid
 by_cases hi : i < 16
 ·rw [if_pos hi, if_pos hi]
  have := ha i hi
  have := hb i hi
  omega
 ·rw [if_neg hi, if_neg hi]
  omega⟩
theorem S_add (f g : NI) : ∀ n, S (fun i => f i + g i) n = S f n + S g n
 | 0 => rfl
 | n + 1 => by
  have ih := S_add f g n
  simp only [S]
  rw [ih, Int.add_mul]
  omega
theorem ad_S (a b : NI) : S (ad a b 16) 32 = S a 16 + S b 16 := by
 have e : S (ad a b 16) 32 = S (wid a 16) 32 + S (wid b 16) 32 := by
  rw [← S_add]
  exact S_congr fun i _ => rfl
 rw [e, wid_S, wid_S]
theorem radd_any (a b : NI) (w : World) (ha : Dig a 16) (hb : Dig b 16) : Cs 40 #[.agg (arr 16 a), .agg (arr 16 b)] w (.agg (arr 16 (d16 ((S a 16 + S b 16) % Pm)))) := by
 go_enter Tryz.func40, Tryz.ntmps40
 have R1 : Row (((w.alloc (.cells (arr 16 a) 88)).alloc (.cells (arr 16 b) 88)).alloc (.cells (arr 16 fun _ => 0) 88)) w.heap.size 88 16 a := ((Row.new w 88 16 a).alloc _).alloc _
 have R2 : Row (((w.alloc (.cells (arr 16 a) 88)).alloc (.cells (arr 16 b) 88)).alloc (.cells (arr 16 fun _ => 0) 88)) (w.heap.size + 1) 88 16 b := (Row.new' _ 88 16 _ (by simp)).alloc _
 have R3 : Row (((w.alloc (.cells (arr 16 a) 88)).alloc (.cells (arr 16 b) 88)).alloc (.cells (arr 16 fun _ => 0) 88)) (w.heap.size + 1 + 1) 88 16 (fun _ => 0) := Row.new' _ 88 16 _ (by simp)
 have O : Below w.heap.size w (((w.alloc (.cells (arr 16 a) 88)).alloc (.cells (arr 16 b) 88)).alloc (.cells (arr 16 fun _ => 0) 88)) := (((Below.refl _ _).alloc (Nat.le_refl _) _).alloc (by simp) _).alloc (by simp; omega) _
 have HR := hide R1
 go_wp2_with (refine wpList_load_row rfl 88 _ rfl w.heap.size rfl 88 (arr 16 a) (0, 0) _ HR.out Tryz.underlying88 rfl (info88 _) ?_)
 clear HR R1
 rw [show #[Value.int .u64 0, Value.int .u64 0, Value.int .u64 0, Value.int .u64 0, Value.int .u64 0, Value.int .u64 0, Value.int .u64 0, Value.int .u64 0, Value.int .u64 0, Value.int .u64 0, Value.int .u64 0, Value.int .u64 0, Value.int .u64 0, Value.int .u64 0, Value.int .u64 0, Value.int .u64 0] = arr 16 (fun _ => 0) from rfl]
 refine (wide_any a _).mono ?_
 rintro _ w1 ⟨rfl, hb1⟩
 replace R2 := R2.keep hb1
 replace R3 := R3.keep hb1
 replace O := O.trans (hb1.mono O.size)
 clear hb1
 have gt1 := R3.lt
 have R : Row (w1.alloc (.cells #[Value.int .u64 0, Value.int .u64 0, Value.int .u64 0, Value.int .u64 0, Value.int .u64 0, Value.int .u64 0, Value.int .u64 0, Value.int .u64 0, Value.int .u64 0, Value.int .u64 0, Value.int .u64 0, Value.int .u64 0, Value.int .u64 0, Value.int .u64 0, Value.int .u64 0, Value.int .u64 0, Value.int .u64 0, Value.int .u64 0, Value.int .u64 0, Value.int .u64 0, Value.int .u64 0, Value.int .u64 0, Value.int .u64 0, Value.int .u64 0, Value.int .u64 0, Value.int .u64 0, Value.int .u64 0, Value.int .u64 0, Value.int .u64 0, Value.int .u64 0, Value.int .u64 0, Value.int .u64 0] 108)) w1.heap.size 108 32 (fun _ => 0) := Row.new w1 108 32 (fun _ => 0)
 have BB := below_setCells (g := w1.heap.size) (Nat.le_refl _) (arr 32 (wid a 16)).toList 0 (new_below w1 (.cells #[Value.int .u64 0, Value.int .u64 0, Value.int .u64 0, Value.int .u64 0, Value.int .u64 0, Value.int .u64 0, Value.int .u64 0, Value.int .u64 0, Value.int .u64 0, Value.int .u64 0, Value.int .u64 0, Value.int .u64 0, Value.int .u64 0, Value.int .u64 0, Value.int .u64 0, Value.int .u64 0, Value.int .u64 0, Value.int .u64 0, Value.int .u64 0, Value.int .u64 0, Value.int .u64 0, Value.int .u64 0, Value.int .u64 0, Value.int .u64 0, Value.int .u64 0, Value.int .u64 0, Value.int .u64 0, Value.int .u64 0, Value.int .u64 0, Value.int .u64 0, Value.int .u64 0, Value.int .u64 0] 108))
 have RR := hide (R.setAll (wid a 16))
 have R2' := hide (R2.keep BB)
 have R3' := hide (R3.keep BB)
 have O' := hide (O.trans (BB.mono O.size))
 clear R2 R3 O BB
 go_wp2_with (refine wpList_store_mid rfl 108 _ _ rfl w1.heap.size 0 (arr 32 (wid a 16)) rfl rfl (by rw [arr_size]; exact R.there) (info108 _) (arr_one _ _) ?_)
 try rw [show ∀ (a : Act) (v : Value), a.put none v = a from fun _ _ => rfl]
 replace R := RR.out
 have R2 := R2'.out
 have R3 := R3'.out
 have O := O'.out
 clear RR R2' R3' O'
 generalize w1.heap.size = gt at *
 generalize (w1.alloc (.cells #[Value.int .u64 0, Value.int .u64 0, Value.int .u64 0, Value.int .u64 0, Value.int .u64 0, Value.int .u64 0, Value.int .u64 0, Value.int .u64 0, Value.int .u64 0, Value.int .u64 0, Value.int .u64 0, Value.int .u64 0, Value.int .u64 0, Value.int .u64 0, Value.int .u64 0, Value.int .u64 0, Value.int .u64 0, Value.int .u64 0, Value.int .u64 0, Value.int .u64 0, Value.int .u64 0, Value.int .u64 0, Value.int .u64 0, Value.int .u64 0, Value.int .u64 0, Value.int .u64 0, Value.int .u64 0, Value.int .u64 0, Value.int .u64 0, Value.int .u64 0, Value.int .u64 0, Value.int .u64 0] 108)).setCells gt 0 (arr 32 (wid a 16)).toList = W2 at *
 go_loopw [6] (fun i wr => ∃ k : Nat, k ≤ 16 ∧ i = .int .i64 k ∧ Row wr gt 108 32 (ad a b k) ∧ Row wr (w.heap.size + 1) 88 16 b ∧ Row wr (w.heap.size + 1 + 1) 88 16 (fun _ => 0) ∧ Below w.heap.size w wr) (fun i _ => 16 - (intOf i).toNat)
 case atStart => exact ⟨0, by omega, rfl, R.congr (fun i _ => by unfold ad; rw [if_neg (by omega)]; omega), R2, R3, O⟩
 case round =>
  clear R R2 R3 O
  obtain ⟨k, hk, rfl, R, R2, R3, O⟩ := hrel
  by_cases hlt : k < 16
  ·have c := R.cell (i := k) (by omega)
   rw [show ad a b k k = a k by unfold ad wid; rw [if_pos hlt, if_neg (by omega)]; omega] at c
   have d := R2.cell hlt
   have e := R.free
   obtain ⟨a0, a1⟩ := ha k hlt
   obtain ⟨b0, b1⟩ := hb k hlt
   have i1 : (0 : Int) ≤ (k : Int) := by omega
   have i2 : (k : Int) < 16 := by omega
   go_wp2_with fail
   go_region
   go_wp2
   exact ⟨⟨k + 1, by omega, by go_num, rowD ((R.set k (a k + b k)).congr (fun i _ => by
    unfold upd ad
    by_cases h : i = k
    ·subst h
     rw [if_pos rfl, if_pos (by omega)]
     unfold wid
     rw [if_pos hlt]
    ·rw [if_neg h]
     by_cases h2 : i < k
     ·rw [if_pos h2, if_pos (by omega)]
     ·rw [if_neg h2, if_neg (by omega)])), rowD (R2.other (a := ⟨gt, k, none⟩) (by simp; omega) _), rowD (R3.other (a := ⟨gt, k, none⟩) (by simp; omega) _), (O.setCell (p := ⟨gt, k, none⟩) (by simp; omega) _).drew⟩, by simp [intOf]; omega⟩
  ·have hk' : k = 16 := by omega
   subst hk'
   have HR := hide R
   clear R R2
   go_wp2_with (refine wpList_load_row rfl 108 _ rfl gt rfl 108 (arr 32 (ad a b 16)) (0, 0) _ HR.out Tryz.underlying108 rfl (info108 _) ?_)
   try rw [show ∀ (a : Act) (v : Value), a.put none v = a from fun _ _ => rfl]
   refine (reduce_any (ad a b 16) _ (ad_48 ha hb)).mono ?_
   rintro _ w3 ⟨rfl, hb3⟩
   replace R3 := R3.keep hb3
   replace O := O.trans (hb3.mono O.size)
   clear hb3 HR
   rw [ad_S]
   have RR := hide (R3.setAll (d16 ((S a 16 + S b 16) % Pm)))
   have OO := hide (below_setCells (g := w.heap.size + 1 + 1) (by omega) (arr 16 (d16 ((S a 16 + S b 16) % Pm))).toList 0 O)
   go_wp2_with (refine wpList_store_mid rfl 88 _ _ rfl (w.heap.size + 1 + 1) 0 (arr 16 (d16 ((S a 16 + S b 16) % Pm))) rfl rfl (by rw [arr_size]; exact R3.there) (info88 _) (arr_one _ _) ?_)
   exact bodyPost_ret (v := .agg (arr 16 (d16 ((S a 16 + S b 16) % Pm)))) (results_cell_row Tryz.results40 _ _ (w.heap.size + 1 + 1) 88 (arr 16 (d16 ((S a 16 + S b 16) % Pm))) (0, 0) _ rfl RR.out Tryz.underlying88 rfl (info88 _)) rfl ⟨rfl, OO.out⟩
end Go.Proofs.YtffimigpbcilbaaGreatDoor.Mon
