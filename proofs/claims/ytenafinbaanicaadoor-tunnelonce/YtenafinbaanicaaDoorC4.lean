/- The stream that is ranged over, and the text that is turned by it: the walks of stream, its closure, and turned. -/
import Derived.Test.YtenafinbaanicaaDoorC3
namespace Go.Proofs.YtenafinbaanicaaDoor
open Go.RowKit

/-- The loop's record. -/
def lpr (st : LoopState) (pe : Option Code) (fn : FuncId) (T : Array Value) (sg bd : Code) (D : Nat) : Loop := { state := st, pending := pe, fn := fn, tmps := T, params := #[15, 16], assign := sg, body := bd, defers := D }
def tF (k gs : Nat) (v : Nat → Value) : Array Value := #[v 0, v 1, .pointer (some ⟨gs, 0, none⟩), v 3, v 4, .pointer (some ⟨k, 0, none⟩), v 6, v 7, v 8, v 9, v 10, v 11, v 12, v 13, v 14, v 15, v 16, v 17, v 18, v 19, v 20, v 21, v 22, v 23, v 24, v 25, v 26, v 27, v 28, v 29, v 30, v 31, v 32, v 33, v 34, v 35, v 36, v 37, v 38]
theorem fr_is {a b : Act} (h : a = b) {c : Code} {F : Fence} {n : Nat} {P : Program} {Q : Exit → Act → World → Prop} {w : World} (k : c.wpIn F n P Q b w) : c.wpIn F n P Q a w := by
  rw [h]
  exact k
theorem rg_yieldN {P : Program} {a : Act} {w : World} {Q : Exit → Act → World → Prop} {id : Nat} {l : List Oper} (m : Nat) (hd : (l.take m).all ndB = true) (hQ : ∀ a w, ¬ Q .outgrown a w) (h : PL P l.toArray (Exit.then (wpListIn (FW none) 0 P l.toArray Q (l.drop m)) Q) (l.take m) a w) : (Code.region id l.toArray false).wp P Q a w := by
  refine (wpIn_wide (n := 0)).1 ?_
  refine wpIn_region_lit (F := FW none) ?_
  have h2 := list_in_then (ro := none) (n := 0) (l.take m) a w hd hQ h.out
  rw [List.take_append_drop] at h2
  exact h2
theorem nr_loop (r : Loop) : NR (.loop r) := fun _ _ e => by cases e
theorem nr_def (x : Option (List Deferred)) : NR (.deferred x) := fun _ _ e => by cases e
theorem nr_cells (c : Array Value) (T : TypeId) (h : T ≠ 5) : NR (.cells c T) := fun _ _ e => by
  cases e
  exact h rfl
theorem nrs_nil : ∀ b ∈ ([] : List Blk), NR b.Z := fun _ h => by cases h
theorem nrs_cons {x : Blk} {L : List Blk} (h : NR x.Z) (hs : ∀ b ∈ L, NR b.Z) : ∀ b ∈ x :: L, NR b.Z := fun b hb => by
  rcases List.mem_cons.1 hb with rfl | hb
  · exact h
  · exact hs b hb

set_option maxRecDepth 100000 in
set_option maxHeartbeats 4000000 in
theorem c_stream (f : Nat → Int) (w : World) (hL : Laid w)  :
    Calls Tryd.prog 70 #[.agg (av 16 (w32 f))] w fun r w' => ∃ g, r = .returned (.func (.func 87) #[] #[.pointer (some ⟨g, 0, none⟩)]) ∧ w.heap.size ≤ g ∧ w'.heap[g]? = some (.cells (av 16 (w32 f)) 101) ∧ Below w.heap.size w w' := by
  go_enter Tryd.func70, Tryd.ntmps70
  have M := Mem.start hL
  refine sR ?_
  refine pN M 1 (.cells (av 16 (w32 f)) 101) fun g1 u1 M => ?_
  refine rV 1 ?_
  refine nT ?_
  refine sq ?_
  refine wp_ret ?_
  exact bX (.func (.func 87) #[] #[.pointer (some ⟨g1, 0, none⟩)]) ⟨g1, rfl, (M.ge _ (List.mem_of_getElem? (i := 0) rfl)).elim id (fun h => by cases h), M.get 0 rfl, below_grown M.old⟩

theorem perm_last {α : Type} (x : α) : ∀ (L : List α), (L ++ [x]).Perm (x :: L) := fun L => List.perm_append_singleton x L

set_option maxRecDepth 100000 in
set_option maxHeartbeats 4000000 in
theorem c_iter (sg bd : Code) (hb : Tryd.f62.body.bind findRange = some (sg, bd)) (s : ByteArray) (f : Nat → Int) (hz : s.size ≤ 200000) (k gs gc lp D : Nat) (fn : FuncId) (v : Nat → Value) (w u : World) (hL : Laid w)
    (hS : ST w k [] [⟨gs, .cells (av 1 (fun _ => .string s)) 9⟩, ⟨gc, .cells (av 16 (w32 f)) 101⟩, ⟨lp, .loop (lpr .ready none fn (tF k gs v) sg bd D)⟩, ⟨D, .deferred (some [])⟩] u) :
    Calls Tryd.prog 87 #[.func (.yield lp) #[] #[], .pointer (some ⟨gc, 0, none⟩)] u fun e u' => (∃ v, e = .returned v) ∧ ST w k (ot f s s.size) [⟨gs, .cells (av 1 (fun _ => .string s)) 9⟩, ⟨gc, .cells (av 16 (w32 f)) 101⟩, ⟨lp, .loop (lpr .done (some (.exit 0)) fn (tF k gs v) sg bd D)⟩, ⟨D, .deferred (some [])⟩] u' := by
  go_enter Tryd.func87, Tryd.ntmps87
  have M := hS.mem hL
  refine sR ?_
  refine pA M 5 1 16 (w32 f) ?_
  refine pN M 3 (.cells (av 16 (w32 (fun _ => 0))) 101) fun g1 u1 M => ?_
  refine ZG M 4 16 (w32 f) fun u2 M => ?_
  refine nT ?_
  refine sq ?_
  refine wp_block ?_
  have hS1 := hS.next M (nrs_cons (nr_cells _ _ (by decide)) (nrs_cons (nr_cells _ _ (by decide)) (nrs_cons (nr_loop _) (nrs_cons (nr_def _) (nrs_cons (nr_cells _ _ (by decide)) (nrs_nil))))))
  obtain ⟨N, hN⟩ : ∃ N, N = (s.size - 1) / 64 := ⟨_, rfl⟩
  refine au_loop (fun j a u => ∃ v1 : Nat → Value, a = (fm ([.func (.yield lp) #[] #[], .pointer (some ⟨gc, 0, none⟩), undef, .pointer (some ⟨g1, 0, none⟩), .int .i64 ((64 * j : Nat) : Int), .agg (av 16 (w32 f))] ++ vr v1 6 11)) ∧ ST w k (ot f s (64 * j)) [⟨gs, .cells (av 1 (fun _ => .string s)) 9⟩, ⟨gc, .cells (av 16 (w32 f)) 101⟩, ⟨lp, .loop (lpr .ready none fn (tF k gs v) sg bd D)⟩, ⟨D, .deferred (some [])⟩, ⟨g1, .cells (av 16 (w32 (sw f j))) 101⟩] u) N (exS hS1) ?_ ?_
  · intro j a u0 hj hI
    clear hS1 M hS
    obtain ⟨v1, rfl, hS⟩ := hI
    have M := hS.mem hL
    refine wp_seq ?_
    refine wp_seq ?_
    refine rg_yieldN 4 (by kernel_rfl) (fun _ _ h => by obtain ⟨⟨_, e⟩, _⟩ := h; cases e) ?_
    simp only [List.take_succ_cons, List.take_zero, List.drop_succ_cons, List.drop_zero]
    refine rV 2 ?_
    refine pA M 8 4 16 (w32 (sw f j)) ?_
    refine ZC M 9 (fun w M => c_block (sw f j) w M.laid) fun u3 M => ?_
    refine nT ?_
    have hS2 := hS.next M (nrs_cons (nr_cells _ _ (by decide)) (nrs_cons (nr_cells _ _ (by decide)) (nrs_cons (nr_loop _) (nrs_cons (nr_def _) (nrs_cons (nr_cells _ _ (by decide)) (nrs_nil))))))
    refine pl_yield lp (lpr .ready none fn (tF k gs v) sg bd D) #[.int .i64 ((64 * j : Nat) : Int), .agg (av 64 (w8 (bl (sw f j))))] (M.get 2 rfl) rfl rfl (by kernel_rfl) (fun _ => by kernel_rfl) (want_no rfl) ?_
    refine code_is1 (O := Tryd.f62.body.bind findRange) rfl hb ?_
    refine fr_is (b := (fm ([v 0, v 1, .pointer (some ⟨gs, 0, none⟩), v 3, v 4, .pointer (some ⟨k, 0, none⟩)] ++ vr v 6 9 ++ [.int .i64 ((64 * j : Nat) : Int), .agg (av 64 (w8 (bl (sw f j))))] ++ vr v 17 22))) (by kernel_rfl) ?_
    refine wpIn_seq ?_
    refine rr_lit (by kernel_rfl) (fun _ _ h => h) ?_
    refine rV 1 ?_
    refine nT ?_
    refine rr_lit (by kernel_rfl) (fun _ _ h => h) ?_
    refine pN M 7 (.cells (av 64 (w8 (fun _ => 0))) 114) fun g52 u54 M => ?_
    refine ZG M 5 64 (w8 (bl (sw f j))) fun u55 M => ?_
    refine nT ?_
    refine ⟨M.get 2 rfl, ?_⟩
    have hS3 := (hS.next M (nrs_cons (nr_cells _ _ (by decide)) (nrs_cons (nr_cells _ _ (by decide)) (nrs_cons (nr_loop _) (nrs_cons (nr_def _) (nrs_cons (nr_cells _ _ (by decide)) (nrs_cons (nr_cells _ _ (by decide)) (nrs_nil)))))))).put hL 2 lp _ (.loop { lpr .ready none fn (tF k gs v) sg bd D with state := .busy }) rfl (nr_loop _)
    refine fr_is (b := (fm ([v 0, v 1, .pointer (some ⟨gs, 0, none⟩), v 3, v 4, .pointer (some ⟨k, 0, none⟩), .int .i64 ((64 * j : Nat) : Int), .pointer (some ⟨g52, 0, none⟩)] ++ vr v 8 7 ++ [.int .i64 ((64 * j : Nat) : Int), .agg (av 64 (w8 (bl (sw f j))))] ++ vr v 17 22))) (by kernel_rfl) ?_
    refine r_body sg bd hb s f j (by omega) hz k gs g52 lp [⟨gc, .cells (av 16 (w32 f)) 101⟩, ⟨lp, .loop (lpr .busy none fn (tF k gs v) sg bd D)⟩, ⟨D, .deferred (some [])⟩, ⟨g1, .cells (av 16 (w32 (sw f j))) 101⟩] (fun k_ => ([v 0, v 1, .pointer (some ⟨gs, 0, none⟩), v 3, v 4, .pointer (some ⟨k, 0, none⟩), .int .i64 ((64 * j : Nat) : Int), .pointer (some ⟨g52, 0, none⟩), v 8, v 9, v 10, v 11, v 12, v 13, v 14, .int .i64 ((64 * j : Nat) : Int), .agg (av 64 (w8 (bl (sw f j)))), v 17, v 18, v 19, v 20, v 21, v 22, v 23, v 24, v 25, v 26, v 27, v 28, v 29, v 30, v 31, v 32, v 33, v 34, v 35, v 36, v 37, v 38] : List Value).getD (k_ - 0) undef) w _ hL _ (fun _ _ h => h) (fun _ _ _ h => h) (hS3.perm (.cons _ (perm_last _ [_, _, _, _]))) ?_ ?_
    · intro a9 u9 hc hS4
      refine ⟨lpr .busy none fn (tF k gs v) sg bd D, hS4.at_ _ (List.mem_of_getElem? (i := 3) rfl), ?_⟩
      have hS5 := (hS4.put hL 3 lp _ (.loop { lpr .busy none fn (tF k gs v) sg bd D with state := .ready, pending := none }) rfl (nr_loop _)).drop (.cons_cons _ (.cons _ (.cons_cons _ (.cons_cons _ (.cons_cons _ (.cons_cons _ .slnil))))))
      generalize u9.putObj lp _ = u8 at hS5 ⊢
      have hS6 : ST w k (ot f s (64 * j + 64)) [⟨gs, .cells (av 1 (fun _ => .string s)) 9⟩, ⟨gc, .cells (av 16 (w32 f)) 101⟩, ⟨lp, .loop (lpr .ready none fn (tF k gs v) sg bd D)⟩, ⟨D, .deferred (some [])⟩, ⟨g1, .cells (av 16 (w32 (sw f j))) 101⟩] u8 := hS5
      have M := hS6.mem hL
      refine au_then ?_
      refine wp_cond_true (by kernel_rfl) ?_
      refine wp_skip ?_
      refine au_then ?_
      refine wp_seq ?_
      refine wp_block ?_
      refine rg_lit ?_
      refine rV 1 ?_
      refine ZE M 14 4 12 ?_
      refine rV 2 ?_
      refine ZP32 M 4 12 (va ((sw f j) 12) 1) fun u56 M => ?_
      refine pl_nil ?_
      refine au_block ?_
      refine au_then ?_
      refine rg_lit ?_
      refine rV 1 ?_
      refine ZI 12 (((64 * j : Nat) : Int) + 64) ((64 * (j + 1) : Nat) : Int) ?_
      refine rV 1 ?_
      refine nT ?_
      exact exS (hS6.next M (nrs_cons (nr_cells _ _ (by decide)) (nrs_cons (nr_cells _ _ (by decide)) (nrs_cons (nr_loop _) (nrs_cons (nr_def _) (nrs_cons (nr_cells _ _ (by decide)) (nrs_nil)))))))
    · intro a9 u9 hc _
      exact absurd hc (by omega)
  · intro a u0 hI
    clear hS1 M hS
    obtain ⟨v1, rfl, hS⟩ := hI
    have M := hS.mem hL
    refine wp_seq ?_
    refine wp_seq ?_
    refine rg_yieldN 4 (by kernel_rfl) (fun _ _ h => by obtain ⟨⟨_, e⟩, _⟩ := h; cases e) ?_
    simp only [List.take_succ_cons, List.take_zero, List.drop_succ_cons, List.drop_zero]
    refine rV 2 ?_
    refine pA M 8 4 16 (w32 (sw f N)) ?_
    refine ZC M 9 (fun w M => c_block (sw f N) w M.laid) fun u57 M => ?_
    refine nT ?_
    have hS2 := hS.next M (nrs_cons (nr_cells _ _ (by decide)) (nrs_cons (nr_cells _ _ (by decide)) (nrs_cons (nr_loop _) (nrs_cons (nr_def _) (nrs_cons (nr_cells _ _ (by decide)) (nrs_nil))))))
    refine pl_yield lp (lpr .ready none fn (tF k gs v) sg bd D) #[.int .i64 ((64 * N : Nat) : Int), .agg (av 64 (w8 (bl (sw f N))))] (M.get 2 rfl) rfl rfl (by kernel_rfl) (fun _ => by kernel_rfl) (want_no rfl) ?_
    refine code_is1 (O := Tryd.f62.body.bind findRange) rfl hb ?_
    refine fr_is (b := (fm ([v 0, v 1, .pointer (some ⟨gs, 0, none⟩), v 3, v 4, .pointer (some ⟨k, 0, none⟩)] ++ vr v 6 9 ++ [.int .i64 ((64 * N : Nat) : Int), .agg (av 64 (w8 (bl (sw f N))))] ++ vr v 17 22))) (by kernel_rfl) ?_
    refine wpIn_seq ?_
    refine rr_lit (by kernel_rfl) (fun _ _ h => h) ?_
    refine rV 1 ?_
    refine nT ?_
    refine rr_lit (by kernel_rfl) (fun _ _ h => h) ?_
    refine pN M 7 (.cells (av 64 (w8 (fun _ => 0))) 114) fun g103 u108 M => ?_
    refine ZG M 5 64 (w8 (bl (sw f N))) fun u109 M => ?_
    refine nT ?_
    refine ⟨M.get 2 rfl, ?_⟩
    have hS3 := (hS.next M (nrs_cons (nr_cells _ _ (by decide)) (nrs_cons (nr_cells _ _ (by decide)) (nrs_cons (nr_loop _) (nrs_cons (nr_def _) (nrs_cons (nr_cells _ _ (by decide)) (nrs_cons (nr_cells _ _ (by decide)) (nrs_nil)))))))).put hL 2 lp _ (.loop { lpr .ready none fn (tF k gs v) sg bd D with state := .busy }) rfl (nr_loop _)
    refine fr_is (b := (fm ([v 0, v 1, .pointer (some ⟨gs, 0, none⟩), v 3, v 4, .pointer (some ⟨k, 0, none⟩), .int .i64 ((64 * N : Nat) : Int), .pointer (some ⟨g103, 0, none⟩)] ++ vr v 8 7 ++ [.int .i64 ((64 * N : Nat) : Int), .agg (av 64 (w8 (bl (sw f N))))] ++ vr v 17 22))) (by kernel_rfl) ?_
    refine r_body sg bd hb s f N (by omega) hz k gs g103 lp [⟨gc, .cells (av 16 (w32 f)) 101⟩, ⟨lp, .loop (lpr .busy none fn (tF k gs v) sg bd D)⟩, ⟨D, .deferred (some [])⟩, ⟨g1, .cells (av 16 (w32 (sw f N))) 101⟩] (fun k_ => ([v 0, v 1, .pointer (some ⟨gs, 0, none⟩), v 3, v 4, .pointer (some ⟨k, 0, none⟩), .int .i64 ((64 * N : Nat) : Int), .pointer (some ⟨g103, 0, none⟩), v 8, v 9, v 10, v 11, v 12, v 13, v 14, .int .i64 ((64 * N : Nat) : Int), .agg (av 64 (w8 (bl (sw f N)))), v 17, v 18, v 19, v 20, v 21, v 22, v 23, v 24, v 25, v 26, v 27, v 28, v 29, v 30, v 31, v 32, v 33, v 34, v 35, v 36, v 37, v 38] : List Value).getD (k_ - 0) undef) w _ hL _ (fun _ _ h => h) (fun _ _ _ h => h) (hS3.perm (.cons _ (perm_last _ [_, _, _, _]))) ?_ ?_
    · intro a9 u9 hc _
      exact absurd hc (by omega)
    · intro a9 u9 hc hS4
      refine ⟨lpr .busy none fn (tF k gs v) sg bd D, hS4.at_ _ (List.mem_of_getElem? (i := 3) rfl), ?_⟩
      have hS5 := (hS4.put hL 3 lp _ (.loop { lpr .busy none fn (tF k gs v) sg bd D with state := .done, pending := (some (.exit 0)) }) rfl (nr_loop _)).drop (.cons_cons _ (.cons _ (.cons_cons _ (.cons_cons _ (.cons_cons _ (.cons_cons _ .slnil))))))
      generalize u9.putObj lp _ = u8 at hS5 ⊢
      have hS6 : ST w k (ot f s s.size) [⟨gs, .cells (av 1 (fun _ => .string s)) 9⟩, ⟨gc, .cells (av 16 (w32 f)) 101⟩, ⟨lp, .loop (lpr .done (some (.exit 0)) fn (tF k gs v) sg bd D)⟩, ⟨D, .deferred (some [])⟩, ⟨g1, .cells (av 16 (w32 (sw f N))) 101⟩] u8 := hS5
      have M := hS6.mem hL
      refine au_then ?_
      refine wp_cond_false (by kernel_rfl) ?_
      refine wp_exit ?_
      refine au_then_exit ?_
      refine au_then_exit ?_
      refine au_block_exit ?_
      exact bodyPost_end (v := .tuple #[]) (results_none Tryd.results87 _ _) (by kernel_rfl) ⟨⟨_, rfl⟩, (hS6.next M (nrs_cons (nr_cells _ _ (by decide)) (nrs_cons (nr_cells _ _ (by decide)) (nrs_cons (nr_loop _) (nrs_cons (nr_def _) (nrs_cons (nr_cells _ _ (by decide)) (nrs_nil))))))).drop (.cons_cons _ (.cons_cons _ (.cons_cons _ (.cons_cons _ (.cons _ .slnil)))))⟩

end Go.Proofs.YtenafinbaanicaaDoor
