/- A range over the spans of a rule. -/
import Derived.Test.YtlfekknonjlopaaGG
import Derived.RangeFuncNested
import Derived.RangeFuncBound
import Derived.RangeFuncCalls
import Derived.RangeFuncLeaves
import Derived.RangeFuncBox
import Derived.Shelf.Abstract
import Derived.Shelf.RegionOpen
import Derived.WalkKit
import Derived.OwnWalkIn
import Derived.TacticsInMore
import Derived.LoopNIn
import Derived.LoopIn
namespace Go.Proofs.Ytlfekknonjlopaa
open Go.RowKit Go.Shelf
set_option linter.unusedVariables false
set_option linter.unusedSimpArgs false
set_option maxHeartbeats 0
set_option maxRecDepth 100000
def FW (ro : Option Nat) : Fence := { Fence.wide with round := ro }
theorem fw_calls {ro : Option Nat} {n : Nat} {P : Program} {f : FuncId} {args : Array Value} {w : World} {R : Ending → World → Prop} (h : Calls P f args w R) : CallsIn (FW ro) n P f args w R := (callsIn_wide (n := n)).2 h
theorem fw_rows {ro : Option Nat} {n : Nat} {P : Program} {row : String} {args : Array Value} {w : World} {R : Value → World → Prop} (h : Rows P row args w R) : RowsIn (FW ro) n P row args w R :=
  fun c cs _ => let ⟨v, w', r, s⟩ := h c cs; ⟨v, w', r, stepsIn_wide.2 s⟩
section
variable {P : Program} {ops : Array Oper} {rest : List Oper} {o : Oper} {a : Act} {w : World} {Q : Exit → Act → World → Prop} {K : Act → World → Prop} {n : Nat} {ro : Option Nat}
theorem op_in (hd : ∀ c, o.op ≠ .defer c) (h : o.wp P a w K Q) : o.wpIn (FW ro) n P a w K Q := by
  refine ⟨fun _ _ => trivial, ?_⟩
  rw [Oper.semAt_eq _ _ _ hd]
  unfold Oper.wp at h
  generalize (execOp a.eval o).run P w = r at h
  cases r with
  | ok x w' =>
    cases x <;> simp only [Oper.upon] at h <;> simp only [Oper.uponIn]
    all_goals first
      | exact h
      | exact h.elim
      | exact ⟨fun e => by simp [FW, Fence.wide] at e, fw_calls h⟩
      | exact ⟨fun e => by simp [FW, Fence.wide] at e, fw_rows h⟩
  | halt x w' => cases x <;> simp only [Oper.upon] at h <;> simp only [Oper.uponIn] <;> exact h
def ndB (o : Oper) : Bool := match o.op with
  | .defer _ => false
  | _ => true
theorem nd_of (h : ndB o = true) : ∀ c, o.op ≠ .defer c := fun c e => by simp [ndB, e] at h
theorem list_in : ∀ (l : List Oper) (a : Act) (w : World), l.all ndB = true → (∀ a w, ¬ Q .outgrown a w) → wpList P ops Q l a w → wpListIn (FW ro) n P ops Q l a w
  | [], _, _, _, _, h => h
  | o :: l, a, w, hd, hQ, h => by
    simp only [List.all_cons, Bool.and_eq_true] at hd
    unfold wpList at h
    unfold wpListIn
    split
    · rename_i hw
      rw [if_pos hw] at h
      rcases h with h | ⟨_, a', w', h⟩
      · exact Oper.wpIn_mono (fun a w h => list_in l a w hd.2 hQ h) (op_in (nd_of hd.1) h)
      · exact absurd h (hQ a' w')
    · rename_i hw
      rw [if_neg hw] at h
      exact ⟨fun _ _ => trivial, list_in l _ _ hd.2 hQ h⟩
end
attribute [local go_sem] Oper.semAt_some
def upto {α : Type} (f : Nat → α) (k : Nat) : List α := (List.range k).map f
theorem upto_succ {α : Type} (f : Nat → α) (k : Nat) : upto f (k + 1) = upto f k ++ [f k] := by simp [upto, List.range_succ]
theorem upto_length {α : Type} (f : Nat → α) (k : Nat) : (upto f k).length = k := by simp [upto]
def spV (x : Spn) : Value := .agg (spC x).toArray
abbrev SpP := {x : Spn // 0 ≤ x.a.l ∧ 0 ≤ x.b.l}
theorem values1_in (F : Fence) (n : Nat) (h7 : F.fn 60) (hro : F.round = none) (hn : 1 ≤ n) (l Bs n₀ b off len cap : Nat) (zs : Nat → SpP) (hreach : len ≤ 1048576) (hb : b < n₀) (J Jx : List SpP → World → Prop) (hJ : ∀ s W W', J s W → W.grownBy W' none → J s W')
    (hY : ∀ pre x W, J pre W → pre.length < len → YieldAt F (n - 1) Try.prog l #[spV x.1] W fun e W' =>
      (e = .returned (.bool true) ∧ J (pre ++ [x]) W' ∧ Below n₀ W W') ∨ (e = .returned (.bool false) ∧ Jx (pre ++ [x]) W'))
    (W : World) (hBs : W.cell? ⟨Bs, 0, none⟩ = some (.slice (some ⟨b, off, none⟩) len cap)) (hc : ∀ j, j < len → W.rangeAt b (off + j * 6) (spC (zs j).1)) (h0 : J [] W) (hn00 : n₀ ≤ W.heap.size) :
    CallsIn F n Try.prog 60 #[.func (.yield l) #[] #[], .pointer (some ⟨Bs, 0, none⟩)] W fun e W' => (∃ v, e = .returned v) ∧
      ((∃ ys, ys = upto zs len ∧ J ys W') ∨ (∃ pre, (∃ k, k ≤ len ∧ pre = upto zs k) ∧ Jx pre W')) := by
  refine callsIn_of_wp Try.func60 rfl h7 ?_ hro
  simp only [Try.ntmps60, List.size_toArray, List.length_cons, List.length_nil, Nat.reduceAdd, Nat.reduceSub, Array.replicate_succ, Array.replicate_zero, List.push_toArray, List.append_toArray, List.nil_append, List.cons_append]
  gi_wp2
  gi_loopw [7] (fun i wr => ∃ k : Nat, k ≤ len ∧ i = .int .i64 k ∧ J (upto zs k) wr ∧ Below n₀ W wr)
    (fun i _ => len - (intOf i).toNat)
  case atStart => exact ⟨0, Nat.zero_le _, rfl, h0, Below.refl _ _⟩
  case round =>
    obtain ⟨k, hk, rfl, hJs, hnx⟩ := hrel
    have hn0' : n₀ ≤ wr.heap.size := Nat.le_trans hn00 hnx.size
    have hcx : k < len → wr.rangeAt b (off + k * 6) (spC (zs k).1) := fun h => fun j x hx => (hnx.cell (p := ⟨b, off + k * 6 + j, none⟩) hb).trans (hc k h j x hx)
    by_cases hlt : k < len
    · have hcx' := hcx hlt
      have hld : (Instr.loadAt 73 (.pointer (some ⟨b, off + k * 6, none⟩))).run Try.prog wr = .ok (.agg #[.bool (zs k).1.a.v, .int .u64 (zs k).1.a.h, .int .u64 (zs k).1.a.l, .bool (zs k).1.b.v, .int .u64 (zs k).1.b.h, .int .u64 (zs k).1.b.l]) wr := run_loadAt_mid wr b (off + k * 6) 73 (spC (zs k).1) _ hcx' Try.underlying73 (by kernel_rfl) rfl
      have hr0 : ∀ j x, (spC (zs k).1)[j]? = some x → wr.cell? ⟨b, off + k * 6 + j, none⟩ = some x := hcx'
      have c0 : wr.cell? ⟨b, off + k * 6, none⟩ = some (.bool (zs k).1.a.v) := hr0 0 _ rfl
      have c1 : wr.cell? ⟨b, off + k * 6 + 1, none⟩ = some (.int .u64 (zs k).1.a.h) := hr0 1 _ rfl
      have c2 : wr.cell? ⟨b, off + k * 6 + 2, none⟩ = some (.int .u64 (zs k).1.a.l) := hr0 2 _ rfl
      have c3 : wr.cell? ⟨b, off + k * 6 + 3, none⟩ = some (.bool (zs k).1.b.v) := hr0 3 _ rfl
      have c4 : wr.cell? ⟨b, off + k * 6 + 4, none⟩ = some (.int .u64 (zs k).1.b.h) := hr0 4 _ rfl
      have c5 : wr.cell? ⟨b, off + k * 6 + 5, none⟩ = some (.int .u64 (zs k).1.b.l) := hr0 5 _ rfl
      have hg0 : wr.grownBy (wr.alloc (.cells (spC (zs k).1).toArray 73)) none := World.grownBy_alloc _ _ _
      have hb0 : Below n₀ wr (wr.alloc (.cells (spC (zs k).1).toArray 73)) := (Below.refl n₀ wr).alloc hn0' _
      obtain ⟨fn, tmps, assign, body, hy, hR⟩ := hY _ (zs k) (wr.alloc (.cells (spC (zs k).1).toArray 73)) (hJ _ _ _ hJs hg0) (by rw [upto_length]; exact hlt)
      have hy' : Sem.run Try.prog (Instr.yield l #[.agg #[.bool (zs k).1.a.v, .int .u64 (zs k).1.a.h, .int .u64 (zs k).1.a.l, .bool (zs k).1.b.v, .int .u64 (zs k).1.b.h, .int .u64 (zs k).1.b.l]]) (wr.alloc (.cells #[.bool (zs k).1.a.v, .int .u64 (zs k).1.a.h, .int .u64 (zs k).1.a.l, .bool (zs k).1.b.v, .int .u64 (zs k).1.b.h, .int .u64 (zs k).1.b.l] 73)) = _ := hy
      gi_wp2
      refine hR.mono ?_
      rintro e W3 (⟨rfl, hJ3, hk3⟩ | ⟨rfl, hJx3⟩)
      · gi_wp2
        go_roundw
        case rel => exact ⟨k + 1, by omega, by simp, by rw [upto_succ]; exact hJ3, hnx.trans (hb0.trans hk3)⟩
        case measure => simp [intOf]; omega
      · gi_wp2
        refine bodyPost_ret (results_none rfl _ _ _) rfl ?_
        exact ⟨⟨_, rfl⟩, .inr ⟨_, ⟨k + 1, by omega, (upto_succ _ _).symm⟩, hJx3⟩⟩
    · obtain rfl : k = len := by omega
      gi_wp2
      go_end0
      exact ⟨⟨_, rfl⟩, .inl ⟨_, rfl, hJs⟩⟩
theorem values1_nil_in (F : Fence) (n : Nat) (h7 : F.fn 60) (hro : F.round = none) (l Bs : Nat) (ba : Option Addr) (cap : Nat) (J : List SpP → World → Prop) (W : World) (hBs : W.cell? ⟨Bs, 0, none⟩ = some (.slice ba 0 cap)) (h0 : J [] W) :
    CallsIn F n Try.prog 60 #[.func (.yield l) #[] #[], .pointer (some ⟨Bs, 0, none⟩)] W fun e W' => (∃ v, e = .returned v) ∧ J [] W' := by
  refine callsIn_of_wp Try.func60 rfl h7 ?_ hro
  simp only [Try.ntmps60, List.size_toArray, List.length_cons, List.length_nil, Nat.reduceAdd, Nat.reduceSub, Array.replicate_succ, Array.replicate_zero, List.push_toArray, List.append_toArray, List.nil_append, List.cons_append]
  gi_wp2
  gi_loopw [7] (fun i wr => i = .int .i64 0 ∧ J [] wr) (fun _ _ => 0)
  case atStart => exact ⟨rfl, h0⟩
  case round =>
    obtain ⟨rfl, hJs⟩ := hrel
    gi_wp2
    go_end0
    exact ⟨⟨_, rfl⟩, hJs⟩
/-- The slice value holds these spans, below n₀; or there are none. -/
def Spans (n₀ : Nat) (W : World) (sv : Value) (len : Nat) (zs : Nat → SpP) : Prop :=
  (∃ ba cap, sv = .slice ba 0 cap ∧ len = 0) ∨ ∃ b off cap, sv = .slice (some ⟨b, off, none⟩) len cap ∧ b < n₀ ∧ ∀ j, j < len → W.rangeAt b (off + j * 6) (spC (zs j).1)
theorem Spans.below {n₀ : Nat} {A B : World} (h : Below n₀ A B) {sv : Value} {len : Nat} {zs : Nat → SpP} : Spans n₀ A sv len zs → Spans n₀ B sv len zs
  | .inl e => .inl e
  | .inr ⟨b, off, cap, e, hb, hc⟩ => .inr ⟨b, off, cap, e, hb, fun j hj i x hx => (h.cell (p := ⟨b, off + j * 6 + i, none⟩) hb).trans (hc j hj i x hx)⟩
theorem sp_stops (F : Fence) (n : Nat) (h7 : F.fn 60) (hro : F.round = none) (hn : 1 ≤ n) (Bs n₀ : Nat) (sv : Value) (len : Nat) (zs : Nat → SpP) (hreach : len ≤ 1048576) (w : World) (hBs : Bs < w.heap.size) (hn₀ : n₀ ≤ w.heap.size)
    (hc : w.cell? ⟨Bs, 0, none⟩ = some sv) (hI : Spans n₀ w sv len zs) :
    SeqStopsK F n Try.prog 60 #[.pointer (some ⟨Bs, 0, none⟩)] (fun x : SpP => #[spV x.1]) (Below n₀) (fun ys => ys = upto zs len) (fun pre => ∃ k, k ≤ len ∧ pre = upto zs k) len w := fun l J Jx W hW hJ _ hY h0 => by
  have hc' := (hW.cell (p := ⟨Bs, 0, none⟩) hBs).trans hc
  rcases hI.below (hW.mono hn₀) with ⟨ba, cap, rfl, rfl⟩ | ⟨b, off, cap, rfl, hb, hcs⟩
  · exact (values1_nil_in F n h7 hro l Bs ba cap J W hc' h0).mono fun e W' ⟨he, hj⟩ => ⟨he, .inl ⟨_, rfl, hj⟩⟩
  · exact values1_in F n h7 hro hn l Bs n₀ b off len cap zs hreach hb J Jx (fun s A B h1 h2 => hJ s A B none h1 h2 (fun r e => by cases e)) hY W hc' hcs h0 (Nat.le_trans hn₀ hW.size)
/-- A region of a round, by the run of slots and items. -/
theorem reg_x {ro : Option Nat} {n id : Nat} {l : List Oper} {Q : Exit → Act → World → Prop} {a : Act} {w : World} (E : Nat → Ent) (t : List SV) (m : List It) (ha : a.tmps = tv E t) (hdf : a.defers = []) (hT : There S0 w (dens E 0 m)) (hok : oks E m)
    (h : OK S0 ⟨w, (dens E 0 m).map Blk.g⟩ E m.length Q [frO l l] ⟨t, m⟩) (hQ : ∀ a w, ¬ Q .outgrown a w) (hd : l.all ndB = true := by kernel_rfl) (hx : (t.all (SV.al (isLt m.length)) && m.all (It.al (isLt m.length))) = true := by kernel_rfl) : (Code.region id l.toArray false).wpIn (FW ro) n Try.prog Q a w :=
  wpIn_region_lit (list_in l a w hd hQ (h.out E a w (Nat.le_refl _) (fun _ _ => rfl) ⟨ha, hdf, Mem.start (S := S0) trivial hT, hok, (Bool.and_eq_true_iff.1 hx).1, (Bool.and_eq_true_iff.1 hx).2⟩))
theorem reg_h {ro : Option Nat} {n id : Nat} {l : List Oper} {Q : Exit → Act → World → Prop} {a : Act} {w : World} {E : Nat → Ent} {c : Ctx} {s : St} (H : Hold S0 c E s a w) (h : OK S0 c E s.m.length Q [frO l l] s) (hQ : ∀ a w, ¬ Q .outgrown a w) (hd : l.all ndB = true := by kernel_rfl) : (Code.region id l.toArray false).wpIn (FW ro) n Try.prog Q a w :=
  wpIn_region_lit (list_in l a w hd hQ (h.out E a w (Nat.le_refl _) (fun _ _ => rfl) H))
theorem grw_from {W W' : World} {r : List Nat} (h : Grw W W' r) (hc : ∀ k ∈ r, ∃ o : Obj, W.heap[k]? = some o ∧ o.isCells = true) (B : Nat) : KeepsFrom B W W' :=
  ⟨h.size, fun k o _ hk ho => (h.block k (Array.getElem?_eq_some_iff.1 hk).1 fun hr => by
    obtain ⟨o', h1, h2⟩ := hc k hr
    rw [hk] at h1
    cases h1
    rw [ho] at h2
    cases h2).trans hk⟩
theorem grw_low {W W' : World} {r : List Nat} {n : Nat} (h : Grw W W' r) (hr : ∀ k ∈ r, n ≤ k) (hn : n ≤ W.heap.size) : Below n W W' :=
  ⟨h.os, h.tape, h.output, h.size, fun k hk => h.block k (Nat.lt_of_lt_of_le hk hn) fun hk' => absurd (hr k hk') (by omega)⟩
theorem ok_end {c : Ctx} {E0 : Nat → Ent} {n : Nat} {Q : Exit → Act → World → Prop} {s : St} {K : List Fr} (m' : List It) (i : Nat) (v : SV) (h : ∀ E a w, (∀ i, i < n → E i = E0 i) → Hold S0 c E s a w → s.m = m' → a.eval (.tmp i) = v.den E → Q .normal a w) (hK : K = [] := by kernel_rfl) (hm : s.m = m' := by kernel_rfl) (hv : s.t[i]? = some v := by kernel_rfl) : OK S0 c E0 n Q K s := hK ▸ ⟨fun E a w _ hE H => h E a w hE H hm (by rw [ev_den H.tm]; simp [evS, hv])⟩
def inB (s : Spn) (a : Adr) : Bool := !lesB a s.1 && (!lesB s.2 a && spaB s)
def adV (a : Adr) : Value := .agg #[.bool a.v, .int .u64 a.h, .int .u64 a.l]
theorem cells_kept {A B : World} {row : Option Nat} {m k : Nat} {cs : Array Value} {t : TypeId} (hg : A.grownBy B row) (hr : ∀ r, row = some r → m ≤ r ∧ ∃ o : Obj, A.heap[r]? = some o ∧ o.isCells = false) (h : A.heap[k]? = some (.cells cs t (0, 0))) : B.heap[k]? = some (.cells cs t (0, 0)) := by
  rw [hg.block k (Array.getElem?_eq_some_iff.1 h).1 fun e => by
    obtain ⟨_, o, h1, h2⟩ := hr k e.symm
    rw [h] at h1
    cases h1
    cases h2]
  exact h
theorem below_kept {w A B : World} {row : Option Nat} {m n : Nat} (hB : Below n w A) (hg : A.grownBy B row) (hn : n ≤ w.heap.size) (hm : n ≤ m) (hr : ∀ r, row = some r → m ≤ r ∧ ∃ o : Obj, A.heap[r]? = some o ∧ o.isCells = false) : Below n w B :=
  ⟨hg.os.trans hB.os, hg.tape.trans hB.tape, hg.output.trans hB.output, Nat.le_trans hB.size hg.size, fun k hk => (hg.block k (Nat.lt_of_lt_of_le (Nat.lt_of_lt_of_le hk hn) hB.size) fun e => by
    have := (hr k e.symm).1
    omega).trans (hB.block k hk)⟩
abbrev wI (a : Adr) (w : World) : List SpP → World → Prop := fun pre W => ((∀ y ∈ pre, inB y.1 a = false) ∧ W.heap[w.heap.size]? = some (.cells #[.bool a.v, .int .u64 a.h, .int .u64 a.l] 39 (0, 0)) ∧ W.heap[w.heap.size + 1]? = some (.cells #[.bool false] 4 (0, 0))) ∧ Below w.heap.size w W
abbrev wX (a : Adr) (w : World) : Code → List SpP → World → Prop := fun c pre W => (c = .ret ∧ (∃ y ∈ pre, inB y.1 a = true) ∧ W.heap[w.heap.size + 1]? = some (.cells #[.bool true] 4 (0, 0))) ∧ Below w.heap.size w W
set_option maxHeartbeats 400000 in
theorem within_in (F : Fence) (hF : ∀ l, F.inRound l = FW (some l)) (hro : F.round = none) (h49 : F.fn 49) (h60 : F.fn 60) (a : Adr) (Bs : Nat) (sv : Value) (len : Nat) (zs : Nat → SpP) (hreach : len ≤ 1048576) (w : World) (hBs : Bs < w.heap.size) (hc : w.cell? ⟨Bs, 0, none⟩ = some sv) (hI : Spans w.heap.size w sv len zs) :
    CallsIn F 5 Try.prog 49 #[.func (.func 60) #[] #[.pointer (some ⟨Bs, 0, none⟩)], adV a] w fun e W' => e = .returned (.bool ((List.range len).any fun j => inB (zs j).1 a)) ∧ Below w.heap.size w W' := by
  refine callsIn_of_wp_marks Try.func49 rfl h49 ?_ hro
  unfold adV
  simp only [Try.ntmps49, List.size_toArray, List.length_cons, List.length_nil, Nat.reduceAdd, Nat.reduceSub, Array.replicate_succ, Array.replicate_zero, List.push_toArray, List.append_toArray, List.nil_append, List.cons_append]
  gi_wp2
  obtain ⟨W0, hW0⟩ : ∃ W0, (w.alloc (.cells #[.bool a.v, .int .u64 a.h, .int .u64 a.l] 39)).alloc (.cells #[.bool false] 4) = W0 := ⟨_, rfl⟩
  have hs0 : W0.heap.size = w.heap.size + 2 := by rw [← hW0]; simp
  have hB0 : W0.heap[w.heap.size]? = some (.cells #[.bool a.v, .int .u64 a.h, .int .u64 a.l] 39 (0, 0)) := by
    rw [← hW0]; exact (Below.heap_alloc _ _ _ (by simp)).trans (World.alloc_heap_new w _)
  have hB1 : W0.heap[w.heap.size + 1]? = some (.cells #[.bool false] 4 (0, 0)) := by
    rw [← hW0]
    have := World.alloc_heap_new (w.alloc (.cells #[.bool a.v, .int .u64 a.h, .int .u64 a.l] 39)) (.cells #[.bool false] 4); rwa [World.size_alloc] at this
  have hBel : Below w.heap.size w W0 := by rw [← hW0]; exact ((Below.refl _ w).alloc (Nat.le_refl _) _).alloc (by simp) _
  rw [hW0]
  refine wpIn_rangeFunc_ownH hro (by omega) (gf := 60) (lb := #[.pointer (some ⟨Bs, 0, none⟩)]) rfl h60 (enters_of Try.func60 (by kernel_rfl) rfl)
    (sp_stops F (5 - 1) h60 hro (by omega) Bs w.heap.size sv len zs hreach W0 (by omega) (by omega) ((hBel.cell (p := ⟨Bs, 0, none⟩) hBs).trans hc) (hI.below hBel)) belowK_t (belowK_b (by omega)) (Below.refl _ _) (fun _ => rfl)
    (wI a w)
    (wX a w)
    ?hI ?hIx ⟨⟨by simp, hB0, hB1⟩, hBel⟩
    (fun x a' W => ∃ Bx, w.heap.size + 1 < Bx ∧ W.heap[Bx]? = some (.cells (spC x.1).toArray 73 (0, 0)) ∧ ∃ u7, a' = { tmps := #[.func (.func 60) #[] #[.pointer (some ⟨Bs, 0, none⟩)], .agg #[.bool a.v, .int .u64 a.h, .int .u64 a.l], undef, .pointer (some ⟨w.heap.size, 0, none⟩), .pointer (some ⟨w.heap.size + 1, 0, none⟩), .pointer (some ⟨Bx, 0, none⟩), .func (.func 60) #[] #[.pointer (some ⟨Bs, 0, none⟩)], u7, undef, undef, undef, undef, undef, undef, undef, undef, undef, undef, undef, undef, undef, undef, undef, undef], defers := [] }) ?hAx ?assign ?body ?done ?stop
  case hI => exact fun s A B row hs hg hr => ⟨⟨hs.1.1, cells_kept hg hr hs.1.2.1, cells_kept hg hr hs.1.2.2⟩, below_kept hs.2 hg (Nat.le_refl _) (by omega) hr⟩
  case hIx => exact fun c s A B row hs hg hr => ⟨⟨hs.1.1, hs.1.2.1, cells_kept hg hr hs.1.2.2⟩, below_kept hs.2 hg (Nat.le_refl _) (by omega) hr⟩
  case hAx =>
    intro x a' s A B row hs hg hr
    obtain ⟨Bx, h1, h2, h3⟩ := hs
    exact ⟨Bx, h1, cells_kept hg hr h2, h3⟩
  case assign =>
    intro l pre x W K hI hK
    obtain ⟨⟨hp, hcw, hcr⟩, hB⟩ := hI
    rw [hF]
    obtain ⟨⟨⟨xv, xh, xl⟩, yv, yh, yl⟩, q1, q2⟩ := x
    refine reg_x (fun i => ⟨0, .bool false, [], rfl⟩)
      [vF (.func 60) [] [vV (.pointer (some ⟨Bs, 0, none⟩))], vG [vV (.bool a.v), vV (.int .u64 a.h), vV (.int .u64 a.l)], vV undef, vV (.pointer (some ⟨w.heap.size, 0, none⟩)), vV (.pointer (some ⟨w.heap.size + 1, 0, none⟩)), vV undef, vF (.func 60) [] [vV (.pointer (some ⟨Bs, 0, none⟩))], vG [vV (.bool xv), vV (.int .u64 xh), vV (.int .u64 xl), vV (.bool yv), vV (.int .u64 yh), vV (.int .u64 yl)], vV undef, vV undef, vV undef, vV undef, vV undef, vV undef, vV undef, vV undef, vV undef, vV undef, vV undef, vV undef, vV undef, vV undef, vV undef, vV undef] [] (by first | rfl | kernel_rfl | simp [tv, spV, spC, SV.den]) rfl (There.nil _ _) (by intro i y hy; simp at hy) ?_ (fun _ _ h => h)
    refine xR 3 [] ?_
    refine ok_end [tC [vV (.bool xv), vV (.int .u64 xh), vV (.int .u64 xl), vV (.bool yv), vV (.int .u64 yh), vV (.int .u64 yl)] 73] 0 (vF (.func 60) [] [vV (.pointer (some ⟨Bs, 0, none⟩))]) fun E b W' hE H he _ => ?_
    have hm := H.mem
    rw [he] at hm
    obtain ⟨_, td⟩ := b
    obtain rfl := H.tm
    obtain rfl := H.df
    have hz : w.heap.size < W.heap.size := (Array.getElem?_eq_some_iff.1 hcw).1
    have hz1 : w.heap.size + 1 < W.heap.size := (Array.getElem?_eq_some_iff.1 hcr).1
    have hb := hm.old.below
    have hx := hm.at_ ⟨(E 0).g, _⟩ (List.mem_singleton.2 rfl)
    have hg := hm.ge ⟨(E 0).g, _⟩ (List.mem_singleton.2 rfl)
    refine hK _ _ (grw_from hm.old (by simp [dens]) _) (hb.mono hB.size) ⟨⟨hp, (hb.block _ hz).trans hcw, (hb.block _ hz1).trans hcr⟩, hB.trans (hb.mono hB.size)⟩ ⟨(E 0).g, ?_, hx, spV ((xv, xh, xl), yv, yh, yl), by kernel_rfl⟩
    rcases hg with hg | hg
    · exact Nat.lt_of_lt_of_le hz1 hg
    · exact absurd hg (by simp [dens])
  case body =>
    rintro l pre x a' W hl ⟨r, hr⟩ ⟨⟨hp, hcw, hcr⟩, hB⟩ ⟨Bx, hBx, hbx, u7, rfl⟩ hlt
    rw [hF]
    refine wpIn_block ?_
    refine wpIn_seq ?_
    obtain ⟨⟨⟨xv, xh, xl⟩, yv, yh, yl⟩, q1, q2⟩ := x
    obtain ⟨av, ah, al⟩ := a
    have hn1 : Bx ≠ w.heap.size := by omega
    have hn2 : Bx ≠ w.heap.size + 1 := by omega
    obtain ⟨EE, hEE⟩ : ∃ EE : Nat → Ent, EE = fun i => ⟨if i = 0 then w.heap.size else if i = 1 then w.heap.size + 1 else Bx, .bool false, [], rfl⟩ := ⟨_, rfl⟩
    have hno : ∀ (E : Nat → Ent) (b : Act) (W' : World), (∀ i, i < 3 → E i = EE i) → Mem S0 ⟨W, [w.heap.size, w.heap.size + 1, Bx]⟩ (dens E 0 [tC [vV (.bool av), vV (.int .u64 ah), vV (.int .u64 al)] 39, tC [vV (.bool false)] 4, tC [vV (.bool xv), vV (.int .u64 xh), vV (.int .u64 xl), vV (.bool yv), vV (.int .u64 yh), vV (.int .u64 yl)] 73]) W' → inB ((xv, xh, xl), yv, yh, yl) (av, ah, al) = false → Code.skip.wpIn (FW (some l)) 3 Try.prog (Exit.inBlock 1 (ownPostG W0.heap.size (Below w.heap.size) (wI (av, ah, al) w) (wX (av, ah, al) w) (pre ++ [⟨((xv, xh, xl), yv, yh, yl), q1, q2⟩]) W)) b W' := by
      intro E b W' hE hm hin
      have e0 : (E 0).g = w.heap.size := by rw [hE 0 (by omega), hEE]; rfl
      have e1 : (E 1).g = w.heap.size + 1 := by rw [hE 1 (by omega), hEE]; rfl
      have e2 : (E 2).g = Bx := by rw [hE 2 (by omega), hEE]; simp
      have h0 := hm.at_ _ (List.Mem.head _)
      have h1 := hm.at_ _ (List.Mem.tail _ (List.Mem.head _))
      have hcs : ∀ k ∈ [w.heap.size, w.heap.size + 1, Bx], ∃ o : Obj, W.heap[k]? = some o ∧ o.isCells = true := by
        intro k hk
        simp at hk
        rcases hk with rfl | rfl | rfl
        · exact ⟨_, hcw, rfl⟩
        · exact ⟨_, hcr, rfl⟩
        · exact ⟨_, hbx, rfl⟩
      have hlow : Below w.heap.size W W' := grw_low hm.old (by intro k hk; simp at hk; omega) hB.size
      have hkf := grw_from hm.old hcs W0.heap.size
      rw [e0] at h0
      rw [e1] at h1
      refine wpIn_skip ?_
      exact ⟨hkf, hlow, ⟨fun y hy => (List.mem_append.1 hy).elim (hp y) fun h => by simp at h; subst h; exact hin, h0, h1⟩, hB.trans hlow⟩
    have hyes : ∀ (E : Nat → Ent) (b : Act) (W' : World), (∀ i, i < 3 → E i = EE i) → Mem S0 ⟨W, [w.heap.size, w.heap.size + 1, Bx]⟩ (dens E 0 [tC [vV (.bool av), vV (.int .u64 ah), vV (.int .u64 al)] 39, tC [vV (.bool true)] 4, tC [vV (.bool xv), vV (.int .u64 xh), vV (.int .u64 xl), vV (.bool yv), vV (.int .u64 yh), vV (.int .u64 yl)] 73]) W' → inB ((xv, xh, xl), yv, yh, yl) (av, ah, al) = true → Code.ret.wpIn (FW (some l)) 3 Try.prog (Exit.inBlock 1 (ownPostG W0.heap.size (Below w.heap.size) (wI (av, ah, al) w) (wX (av, ah, al) w) (pre ++ [⟨((xv, xh, xl), yv, yh, yl), q1, q2⟩]) W)) b W' := by
      intro E b W' hE hm hin
      have e0 : (E 0).g = w.heap.size := by rw [hE 0 (by omega), hEE]; rfl
      have e1 : (E 1).g = w.heap.size + 1 := by rw [hE 1 (by omega), hEE]; rfl
      have e2 : (E 2).g = Bx := by rw [hE 2 (by omega), hEE]; simp
      have h0 := hm.at_ _ (List.Mem.head _)
      have h1 := hm.at_ _ (List.Mem.tail _ (List.Mem.head _))
      have hcs : ∀ k ∈ [w.heap.size, w.heap.size + 1, Bx], ∃ o : Obj, W.heap[k]? = some o ∧ o.isCells = true := by
        intro k hk
        simp at hk
        rcases hk with rfl | rfl | rfl
        · exact ⟨_, hcw, rfl⟩
        · exact ⟨_, hcr, rfl⟩
        · exact ⟨_, hbx, rfl⟩
      have hlow : Below w.heap.size W W' := grw_low hm.old (by intro k hk; simp at hk; omega) hB.size
      have hkf := grw_from hm.old hcs W0.heap.size
      rw [e0] at h0
      rw [e1] at h1
      refine wpIn_ret ?_
      exact ⟨hkf, ⟨rfl, ⟨_, List.mem_append.2 (.inr (List.mem_singleton.2 rfl)), hin⟩, h1⟩, hB.trans hlow⟩
    subst hEE
    refine reg_x (fun i => ⟨if i = 0 then w.heap.size else if i = 1 then w.heap.size + 1 else Bx, .bool false, [], rfl⟩)
      [vF (.func 60) [] [vV (.pointer (some ⟨Bs, 0, none⟩))], vG [vV (.bool av), vV (.int .u64 ah), vV (.int .u64 al)], vV undef, vP 0 0, vP 1 0, vP 2 0, vF (.func 60) [] [vV (.pointer (some ⟨Bs, 0, none⟩))], vV u7, vV undef, vV undef, vV undef, vV undef, vV undef, vV undef, vV undef, vV undef, vV undef, vV undef, vV undef, vV undef, vV undef, vV undef, vV undef, vV undef]
      [tC [vV (.bool av), vV (.int .u64 ah), vV (.int .u64 al)] 39, tC [vV (.bool false)] 4, tC [vV (.bool xv), vV (.int .u64 xh), vV (.int .u64 xl), vV (.bool yv), vV (.int .u64 yh), vV (.int .u64 yl)] 73] ?_ rfl ?_ ?_ ?_ ?_
    · rfl
    · refine ⟨?_, ?_, ?_⟩
      · intro b hb
        simp [dens, It.den, tC] at hb
        rcases hb with rfl | rfl | rfl
        · exact hcw
        · exact hcr
        · exact hbx
      · simp [dens, It.den, tC]; omega
      · exact fun b hb => Nat.zero_le _
    · intro i y hy
      rcases i with _ | _ | _ | i <;> simp at hy <;> subst hy <;> trivial
    · have k1 := fun C => c_less (C := C) av ah al xv xh xl
      have k2 := fun C => c_less (C := C) yv yh yl av ah al
      have k3 := fun C => c_span (C := C) xv xh xl yv yh yl q1 q2
      have hin : inB ((xv, xh, xl), yv, yh, yl) (av, ah, al) = (!lesB (av, ah, al) (xv, xh, xl) && (!lesB (yv, yh, yl) (av, ah, al) && spaB ((xv, xh, xl), yv, yh, yl))) := rfl
      generalize lesB (av, ah, al) (xv, xh, xl) = m1 at k1 hin
      generalize lesB (yv, yh, yl) (av, ah, al) = m2 at k2 hin
      generalize spaB ((xv, xh, xl), yv, yh, yl) = m3 at k3 hin
      cases m1
      · cases m2
        · cases m3
          · refine xR 17 [(3, dC (k1 _) []), (9, dC (k2 _) []), (14, dC (k3 _) [])] ?_
            refine ok_end [tC [vV (.bool av), vV (.int .u64 ah), vV (.int .u64 al)] 39, tC [vV (.bool false)] 4, tC [vV (.bool xv), vV (.int .u64 xh), vV (.int .u64 xl), vV (.bool yv), vV (.int .u64 yh), vV (.int .u64 yl)] 73] 23 (vV (.bool false)) fun E b W' hE H he hb => ?_
            refine wpIn_cond (t := false) hb ?_
            have hm := H.mem
            rw [he] at hm
            exact hno _ _ _ hE hm hin
          · refine xR 17 [(3, dC (k1 _) []), (9, dC (k2 _) []), (14, dC (k3 _) [])] ?_
            refine ok_end [tC [vV (.bool av), vV (.int .u64 ah), vV (.int .u64 al)] 39, tC [vV (.bool false)] 4, tC [vV (.bool xv), vV (.int .u64 xh), vV (.int .u64 xl), vV (.bool yv), vV (.int .u64 yh), vV (.int .u64 yl)] 73] 23 (vV (.bool true)) fun E b W' hE H he hb => ?_
            refine wpIn_cond (t := true) hb ?_
            refine wpIn_seq ?_
            refine reg_h H ?_ (fun _ _ h => h)
            refine xR 2 [] ?_
            refine ok_end [tC [vV (.bool av), vV (.int .u64 ah), vV (.int .u64 al)] 39, tC [vV (.bool true)] 4, tC [vV (.bool xv), vV (.int .u64 xh), vV (.int .u64 xl), vV (.bool yv), vV (.int .u64 yh), vV (.int .u64 yl)] 73] 4 (vP 1 0) fun E2 b2 W2 hE2 H2 he2 _ => ?_
            have hm := H2.mem
            rw [he2] at hm
            rw [he] at hE2
            exact hyes _ _ _ (fun i hi => (hE2 i hi).trans (hE i hi)) hm hin
        · refine xR 17 [(3, dC (k1 _) []), (9, dC (k2 _) [])] ?_
          refine ok_end [tC [vV (.bool av), vV (.int .u64 ah), vV (.int .u64 al)] 39, tC [vV (.bool false)] 4, tC [vV (.bool xv), vV (.int .u64 xh), vV (.int .u64 xl), vV (.bool yv), vV (.int .u64 yh), vV (.int .u64 yl)] 73] 23 (vV (.bool false)) fun E b W' hE H he hb => ?_
          refine wpIn_cond (t := false) hb ?_
          have hm := H.mem
          rw [he] at hm
          exact hno _ _ _ hE hm hin
      · refine xR 17 [(3, dC (k1 _) [])] ?_
        refine ok_end [tC [vV (.bool av), vV (.int .u64 ah), vV (.int .u64 al)] 39, tC [vV (.bool false)] 4, tC [vV (.bool xv), vV (.int .u64 xh), vV (.int .u64 xl), vV (.bool yv), vV (.int .u64 yh), vV (.int .u64 yl)] 73] 23 (vV (.bool false)) fun E b W' hE H he hb => ?_
        refine wpIn_cond (t := false) hb ?_
        have hm := H.mem
        rw [he] at hm
        exact hno _ _ _ hE hm hin
    · exact fun _ _ h => h
  case done =>
    rintro D ys W hD rfl ⟨⟨hne, hcw, hcr⟩, hB⟩ hK
    have hc1 : W.cell? ⟨w.heap.size + 1, 0, none⟩ = some (.bool false) := by simp [World.cell?, hcr]
    have hf1 : W.frozen? ⟨w.heap.size + 1, 0, none⟩ = false := by simp [World.frozen?, hcr]
    gi_wp2
    have hK' := (KeepsOthers.setCell W ⟨w.heap.size + 1, 0, none⟩ (.bool false)).same D _ hK rfl
    refine ⟨by simp, .inl ⟨_, _, rfl, run_takeDeferred hK', ?_⟩⟩
    have hc5 := cell_kept (World.cell?_setCell_same' W ⟨w.heap.size + 1, 0, none⟩ (.bool false) (by rw [hc1]; rfl)) (grownBy_putObj' _ D (.deferred none)) (fun r e => by cases e; exact ⟨_, hK', rfl⟩)
    refine ⟨.bool false, ?_, ?_, (hB.setCell (p := ⟨w.heap.size + 1, 0, none⟩) (by simp) _).trans (belowK_b (w := w) (Nat.le_refl _) _ D _ _ (by omega) hK' rfl rfl)⟩
    · simp [results, Try.f49, go_sem, hc5]
    · have : ((List.range len).any fun j => inB (zs j).1 a) = false := by
        rw [List.any_eq_false]
        exact fun j hj => by rw [hne (zs j) (List.mem_map_of_mem hj)]; simp
      rw [this]
  case stop =>
    rintro D c pre W hD ⟨k, hk, rfl⟩ ⟨⟨rfl, ⟨y, hy, hy2⟩, hcr⟩, hB⟩ hK
    have hc1 : W.cell? ⟨w.heap.size + 1, 0, none⟩ = some (.bool true) := by simp [World.cell?, hcr]
    gi_wp2
    refine ⟨by simp, .inl ⟨_, _, rfl, run_takeDeferred hK, ?_⟩⟩
    have hc5 := cell_kept hc1 (grownBy_putObj' _ D (.deferred none)) (fun r e => by cases e; exact ⟨_, hK, rfl⟩)
    refine ⟨.bool true, ?_, ?_, hB.trans (belowK_b (w := w) (Nat.le_refl _) W D _ _ (by omega) hK rfl rfl)⟩
    · simp [results, Try.f49, go_sem, hc5]
    · have : ((List.range len).any fun j => inB (zs j).1 a) = true := by
        rw [List.any_eq_true]
        obtain ⟨j, hj, rfl⟩ := List.mem_map.1 hy
        exact ⟨j, by simp at hj ⊢; omega, hy2⟩
      rw [this]
end Go.Proofs.Ytlfekknonjlopaa
