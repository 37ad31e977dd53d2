/- The stream that is ranged over, and the text that is turned by it: the walks of stream, its closure, and turned. -/
import Derived.Test.YtkndaajbedlajaaDoorC3
namespace Go.Proofs.YtkndaajbedlajaaDoor
open Go.RowKit

/-- The loop's record. -/
def lpr (st : LoopState) (pe : Option Code) (fn : FuncId) (T : Array Value) (sg bd : Code) (D : Nat) : Loop := { state := st, pending := pe, fn := fn, tmps := T, params := #[15, 16], assign := sg, body := bd, defers := D }
def tF (k gs : Nat) (v : Nat → Value) : Array Value := #[v 0, v 1, .pointer (some ⟨gs, 0, none⟩), v 3, v 4, .pointer (some ⟨k, 0, none⟩), v 6, v 7, v 8, v 9, v 10, v 11, v 12, v 13, v 14, v 15, v 16, v 17, v 18, v 19, v 20, v 21, v 22, v 23, v 24, v 25, v 26, v 27, v 28, v 29, v 30, v 31, v 32, v 33, v 34, v 35, v 36, v 37, v 38]
theorem fr_is {a b : Act} (h : a = b) {c : Code} {F : Fence} {n : Nat} {P : Program} {Q : Exit → Act → World → Prop} {w : World} (k : c.wpIn F n P Q b w) : c.wpIn F n P Q a w := by
  rw [h]
  exact k
theorem rg_yieldN {P : Program} {a : Act} {w : World} {Q : Exit → Act → World → Prop} {id : Nat} {l : List Oper} (m : Nat) (hd : (l.take m).all ndB = true) (hQ : ∀ a w, ¬ Q .outgrown a w) (h : PL P l.toArray (Exit.then (wpListIn (FW none) 0 P l.toArray Q (l.drop m)) Q) (l.take m) a w) : (Code.region id l.toArray false).wp P Q a w := by
  refine (wpIn_wide (n := 0)).1 ?_
  refine wpIn_region_lit (F := FW none) ?_
  have h2 := list_in_then (ro := none) (n := 0) (l.take m) a w hd hQ h.out
  rw [List.take_append_drop] at h2
  exact h2
theorem nr_loop (r : Loop) : NR (.loop r) := fun _ _ e => by cases e
theorem nr_def (x : Option (List Deferred)) : NR (.deferred x) := fun _ _ e => by cases e
theorem nr_cells (c : Array Value) (T : TypeId) (h : T ≠ 5) : NR (.cells c T) := fun _ _ e => by
  cases e
  exact h rfl
theorem nrs_nil : ∀ b ∈ ([] : List Blk), NR b.Z := fun _ h => by cases h
theorem nrs_cons {x : Blk} {L : List Blk} (h : NR x.Z) (hs : ∀ b ∈ L, NR b.Z) : ∀ b ∈ x :: L, NR b.Z := fun b hb => by
  rcases List.mem_cons.1 hb with rfl | hb
  · exact h
  · exact hs b hb

set_option maxRecDepth 100000 in
set_option maxHeartbeats 4000000 in
theorem c_stream (f : Nat → Int) (w : World) (hL : Laid w)  :
    Calls Tryd.prog 33 #[.agg (av 16 (w32 f))] w fun r w' => ∃ g, r = .returned (.func (.func 55) #[] #[.pointer (some ⟨g, 0, none⟩)]) ∧ w.heap.size ≤ g ∧ w'.heap[g]? = some (.cells (av 16 (w32 f)) 44) ∧ Below w.heap.size w w' := by
  go_enter Tryd.func33, Tryd.ntmps33
  have M := Mem.start hL
  refine wp_seq ?_
  refine rg_lit ?_
  refine pl_new M (want_no rfl) (some 1) rfl (.cells (av 16 (w32 f)) 44) (fun _ => by kernel_rfl) ?_
  intro g1 u1 M
  replace M : Mem ⟨w, []⟩ [⟨g1, .cells (av 16 (w32 f)) 44⟩] u1 := M
  refine pl_val (want_no rfl) (some 2) rfl (.nilFunc) (fun _ => by kernel_rfl) ?_
  refine pl_nil ?_
  refine au_then ?_
  refine wp_seq ?_
  refine rg_lit ?_
  refine pl_val (want_no rfl) (some 3) rfl (.func (.func 55) #[] #[.pointer (some ⟨g1, 0, none⟩)]) (fun _ => by kernel_rfl) ?_
  refine pl_val (want_no rfl) (some 2) rfl (.func (.func 55) #[] #[.pointer (some ⟨g1, 0, none⟩)]) (fun _ => by kernel_rfl) ?_
  refine pl_nil ?_
  refine au_then ?_
  refine wp_ret ?_
  exact bodyPost_ret (v := .func (.func 55) #[] #[.pointer (some ⟨g1, 0, none⟩)]) (results_tmp1 Tryd.results33 _ _ _ (by kernel_rfl)) (by kernel_rfl) ⟨g1, rfl, (M.ge _ (List.mem_of_getElem? (i := 0) rfl)).elim id (fun h => by cases h), M.get 0 rfl, below_grown M.old⟩

theorem perm_last {α : Type} (x : α) : ∀ (L : List α), (L ++ [x]).Perm (x :: L) := fun L => List.perm_append_singleton x L

set_option maxRecDepth 100000 in
set_option maxHeartbeats 4000000 in
theorem c_iter (sg bd : Code) (hb : Tryd.f24.body.bind findRange = some (sg, bd)) (s : ByteArray) (f : Nat → Int) (hz : s.size ≤ 200000) (k gs gc lp D : Nat) (fn : FuncId) (v : Nat → Value) (w u : World) (hL : Laid w)
    (hS : ST w k [] [⟨gs, .cells (av 1 (fun _ => .string s)) 9⟩, ⟨gc, .cells (av 16 (w32 f)) 44⟩, ⟨lp, .loop (lpr .ready none fn (tF k gs v) sg bd D)⟩, ⟨D, .deferred (some [])⟩] u) :
    Calls Tryd.prog 55 #[.func (.yield lp) #[] #[], .pointer (some ⟨gc, 0, none⟩)] u fun e u' => (∃ v, e = .returned v) ∧ ST w k (ot f s s.size) [⟨gs, .cells (av 1 (fun _ => .string s)) 9⟩, ⟨gc, .cells (av 16 (w32 f)) 44⟩, ⟨lp, .loop (lpr .done (some (.exit 0)) fn (tF k gs v) sg bd D)⟩, ⟨D, .deferred (some [])⟩] u' := by
  go_enter Tryd.func55, Tryd.ntmps55
  have M := hS.mem hL
  refine wp_seq ?_
  refine rg_lit ?_
  refine pl_load M (want_no rfl) (some 5) rfl 44 _ rfl 1 gc 0 (by kernel_rfl) 16 44 (w32 f) rfl 16 (w32 f) (fun j _ => by rw [Nat.zero_add]) (by decide) _ Tryd.underlying44 rfl inz44 ?_
  refine pl_new M (want_no rfl) (some 3) rfl (.cells (av 16 (w32 (fun _ => 0))) 44) (fun _ => by kernel_rfl) ?_
  intro g1 u1 M
  replace M : Mem ⟨u, [gs, gc, lp, D]⟩ [⟨gs, .cells (av 1 (fun _ => .string s)) 9⟩, ⟨gc, .cells (av 16 (w32 f)) 44⟩, ⟨lp, .loop (lpr .ready none fn (tF k gs v) sg bd D)⟩, ⟨D, .deferred (some [])⟩, ⟨g1, .cells (av 16 (w32 (fun _ => 0))) 44⟩] u1 := M
  refine pl_put M (want_no rfl) rfl 44 _ _ rfl 4 g1 0 (by kernel_rfl) 16 44 (w32 (fun _ => 0)) rfl 16 (w32 f) (w32 f) (by kernel_rfl) inz44 (by decide) (fun _ _ => rfl) (fun j hj => by rw [if_pos (by omega), Nat.sub_zero]) ?_
  intro u2 M
  replace M : Mem ⟨u, [gs, gc, lp, D]⟩ [⟨gs, .cells (av 1 (fun _ => .string s)) 9⟩, ⟨gc, .cells (av 16 (w32 f)) 44⟩, ⟨lp, .loop (lpr .ready none fn (tF k gs v) sg bd D)⟩, ⟨D, .deferred (some [])⟩, ⟨g1, .cells (av 16 (w32 f)) 44⟩] u2 := M
  refine pl_nil ?_
  refine au_then ?_
  refine wp_seq ?_
  refine rg_lit ?_
  refine pl_val (want_no rfl) (some 4) rfl (.int .i64 0) (fun _ => by kernel_rfl) ?_
  refine pl_nil ?_
  refine au_then ?_
  refine wp_block ?_
  have hS1 := hS.next M (nrs_cons (nr_cells _ _ (by decide)) (nrs_cons (nr_cells _ _ (by decide)) (nrs_cons (nr_loop _) (nrs_cons (nr_def _) (nrs_cons (nr_cells _ _ (by decide)) (nrs_nil))))))
  obtain ⟨N, hN⟩ : ∃ N, N = (s.size - 1) / 64 := ⟨_, rfl⟩
  refine au_loop (fun j a u => ∃ v1 : Nat → Value, a = ⟨#[.func (.yield lp) #[] #[], .pointer (some ⟨gc, 0, none⟩), undef, .pointer (some ⟨g1, 0, none⟩), .int .i64 ((64 * j : Nat) : Int), .agg (av 16 (w32 f)), v1 6, v1 7, v1 8, v1 9, v1 10, v1 11, v1 12, v1 13, v1 14, v1 15, v1 16], []⟩ ∧ ST w k (ot f s (64 * j)) [⟨gs, .cells (av 1 (fun _ => .string s)) 9⟩, ⟨gc, .cells (av 16 (w32 f)) 44⟩, ⟨lp, .loop (lpr .ready none fn (tF k gs v) sg bd D)⟩, ⟨D, .deferred (some [])⟩, ⟨g1, .cells (av 16 (w32 (sw f j))) 44⟩] u) N ⟨fun k_ => ([undef, undef, undef, undef, undef, undef, undef, undef, undef, undef, undef] : List Value).getD (k_ - 6) undef, by kernel_rfl, hS1⟩ ?_ ?_
  · intro j a u0 hj hI
    clear hS1 M hS
    obtain ⟨v1, rfl, hS⟩ := hI
    have M := hS.mem hL
    replace M : Mem ⟨u0, [gs, gc, lp, D, g1]⟩ [⟨gs, .cells (av 1 (fun _ => .string s)) 9⟩, ⟨gc, .cells (av 16 (w32 f)) 44⟩, ⟨lp, .loop (lpr .ready none fn (tF k gs v) sg bd D)⟩, ⟨D, .deferred (some [])⟩, ⟨g1, .cells (av 16 (w32 (sw f j))) 44⟩] u0 := M
    refine wp_seq ?_
    refine wp_seq ?_
    refine rg_yieldN 4 (by kernel_rfl) (fun _ _ h => by obtain ⟨⟨_, e⟩, _⟩ := h; cases e) ?_
    simp only [List.take_succ_cons, List.take_zero, List.drop_succ_cons, List.drop_zero]
    refine pl_val (want_no rfl) (some 6) rfl (.func (.yield lp) #[] #[]) (fun _ => by kernel_rfl) ?_
    refine pl_val (want_no rfl) (some 7) rfl (.int .i64 ((64 * j : Nat) : Int)) (fun _ => by kernel_rfl) ?_
    refine pl_load M (want_no rfl) (some 8) rfl 44 _ rfl 4 g1 0 (by kernel_rfl) 16 44 (w32 (sw f j)) rfl 16 (w32 (sw f j)) (fun j _ => by rw [Nat.zero_add]) (by decide) _ Tryd.underlying44 rfl inz44 ?_
    refine pl_call M (want_no rfl) (some 9) rfl 37 #[.agg (av 16 (w32 (sw f j)))] (.agg (av 64 (w8 (bl (sw f j))))) (fun _ => by kernel_rfl) (fun w M => c_block (sw f j) w M.laid) ?_
    intro u3 M
    refine pl_nil ?_
    refine au_then ?_
    have hS2 := hS.next M (nrs_cons (nr_cells _ _ (by decide)) (nrs_cons (nr_cells _ _ (by decide)) (nrs_cons (nr_loop _) (nrs_cons (nr_def _) (nrs_cons (nr_cells _ _ (by decide)) (nrs_nil))))))
    refine pl_yield lp (lpr .ready none fn (tF k gs v) sg bd D) #[.int .i64 ((64 * j : Nat) : Int), .agg (av 64 (w8 (bl (sw f j))))] (M.get 2 rfl) rfl rfl (by kernel_rfl) (fun _ => by kernel_rfl) (want_no rfl) ?_
    refine code_is1 (O := Tryd.f24.body.bind findRange) rfl hb ?_
    refine fr_is (b := ⟨#[v 0, v 1, .pointer (some ⟨gs, 0, none⟩), v 3, v 4, .pointer (some ⟨k, 0, none⟩), v 6, v 7, v 8, v 9, v 10, v 11, v 12, v 13, v 14, .int .i64 ((64 * j : Nat) : Int), .agg (av 64 (w8 (bl (sw f j)))), v 17, v 18, v 19, v 20, v 21, v 22, v 23, v 24, v 25, v 26, v 27, v 28, v 29, v 30, v 31, v 32, v 33, v 34, v 35, v 36, v 37, v 38], []⟩) (by kernel_rfl) ?_
    refine wpIn_seq ?_
    refine rr_lit (by kernel_rfl) (fun _ _ h => h) ?_
    refine pl_val (want_no rfl) (some 6) rfl (.int .i64 ((64 * j : Nat) : Int)) (fun _ => by kernel_rfl) ?_
    refine pl_nil ?_
    refine au_then ?_
    refine rr_lit (by kernel_rfl) (fun _ _ h => h) ?_
    refine pl_new M (want_no rfl) (some 7) rfl (.cells (av 64 (w8 (fun _ => 0))) 61) (fun _ => by kernel_rfl) ?_
    intro g52 u54 M
    replace M : Mem ⟨u0, [gs, gc, lp, D, g1]⟩ [⟨gs, .cells (av 1 (fun _ => .string s)) 9⟩, ⟨gc, .cells (av 16 (w32 f)) 44⟩, ⟨lp, .loop (lpr .ready none fn (tF k gs v) sg bd D)⟩, ⟨D, .deferred (some [])⟩, ⟨g1, .cells (av 16 (w32 (sw f j))) 44⟩, ⟨g52, .cells (av 64 (w8 (fun _ => 0))) 61⟩] u54 := M
    refine pl_put M (want_no rfl) rfl 61 _ _ rfl 5 g52 0 (by kernel_rfl) 64 61 (w8 (fun _ => 0)) rfl 64 (w8 (bl (sw f j))) (w8 (bl (sw f j))) (by kernel_rfl) inz61 (by decide) (fun _ _ => rfl) (fun j hj => by rw [if_pos (by omega), Nat.sub_zero]) ?_
    intro u55 M
    replace M : Mem ⟨u0, [gs, gc, lp, D, g1]⟩ [⟨gs, .cells (av 1 (fun _ => .string s)) 9⟩, ⟨gc, .cells (av 16 (w32 f)) 44⟩, ⟨lp, .loop (lpr .ready none fn (tF k gs v) sg bd D)⟩, ⟨D, .deferred (some [])⟩, ⟨g1, .cells (av 16 (w32 (sw f j))) 44⟩, ⟨g52, .cells (av 64 (w8 (bl (sw f j)))) 61⟩] u55 := M
    refine pl_nil ?_
    refine au_then ?_
    refine ⟨M.get 2 rfl, ?_⟩
    have hS3 := (hS.next M (nrs_cons (nr_cells _ _ (by decide)) (nrs_cons (nr_cells _ _ (by decide)) (nrs_cons (nr_loop _) (nrs_cons (nr_def _) (nrs_cons (nr_cells _ _ (by decide)) (nrs_cons (nr_cells _ _ (by decide)) (nrs_nil)))))))).put hL 2 lp _ (.loop { lpr .ready none fn (tF k gs v) sg bd D with state := .busy }) rfl (nr_loop _)
    refine fr_is (b := ⟨#[v 0, v 1, .pointer (some ⟨gs, 0, none⟩), v 3, v 4, .pointer (some ⟨k, 0, none⟩), .int .i64 ((64 * j : Nat) : Int), .pointer (some ⟨g52, 0, none⟩), v 8, v 9, v 10, v 11, v 12, v 13, v 14, .int .i64 ((64 * j : Nat) : Int), .agg (av 64 (w8 (bl (sw f j)))), v 17, v 18, v 19, v 20, v 21, v 22, v 23, v 24, v 25, v 26, v 27, v 28, v 29, v 30, v 31, v 32, v 33, v 34, v 35, v 36, v 37, v 38], []⟩) (by kernel_rfl) ?_
    refine r_body sg bd hb s f j (by omega) hz k gs g52 lp [⟨gc, .cells (av 16 (w32 f)) 44⟩, ⟨lp, .loop (lpr .busy none fn (tF k gs v) sg bd D)⟩, ⟨D, .deferred (some [])⟩, ⟨g1, .cells (av 16 (w32 (sw f j))) 44⟩] (fun k_ => ([v 0, v 1, .pointer (some ⟨gs, 0, none⟩), v 3, v 4, .pointer (some ⟨k, 0, none⟩), .int .i64 ((64 * j : Nat) : Int), .pointer (some ⟨g52, 0, none⟩), v 8, v 9, v 10, v 11, v 12, v 13, v 14, .int .i64 ((64 * j : Nat) : Int), .agg (av 64 (w8 (bl (sw f j)))), v 17, v 18, v 19, v 20, v 21, v 22, v 23, v 24, v 25, v 26, v 27, v 28, v 29, v 30, v 31, v 32, v 33, v 34, v 35, v 36, v 37, v 38] : List Value).getD (k_ - 0) undef) w _ hL _ (fun _ _ h => h) (fun _ _ _ h => h) (hS3.perm (.cons _ (perm_last _ [_, _, _, _]))) ?_ ?_
    · intro a9 u9 hc hS4
      refine ⟨lpr .busy none fn (tF k gs v) sg bd D, hS4.at_ _ (List.mem_of_getElem? (i := 3) rfl), ?_⟩
      have hS5 := (hS4.put hL 3 lp _ (.loop { lpr .busy none fn (tF k gs v) sg bd D with state := .ready, pending := none }) rfl (nr_loop _)).drop (.cons_cons _ (.cons _ (.cons_cons _ (.cons_cons _ (.cons_cons _ (.cons_cons _ .slnil))))))
      generalize u9.putObj lp _ = u8 at hS5 ⊢
      have hS6 : ST w k (ot f s (64 * j + 64)) [⟨gs, .cells (av 1 (fun _ => .string s)) 9⟩, ⟨gc, .cells (av 16 (w32 f)) 44⟩, ⟨lp, .loop (lpr .ready none fn (tF k gs v) sg bd D)⟩, ⟨D, .deferred (some [])⟩, ⟨g1, .cells (av 16 (w32 (sw f j))) 44⟩] u8 := hS5
      have M := hS6.mem hL
      replace M : Mem ⟨u8, [gs, gc, lp, D, g1]⟩ [⟨gs, .cells (av 1 (fun _ => .string s)) 9⟩, ⟨gc, .cells (av 16 (w32 f)) 44⟩, ⟨lp, .loop (lpr .ready none fn (tF k gs v) sg bd D)⟩, ⟨D, .deferred (some [])⟩, ⟨g1, .cells (av 16 (w32 (sw f j))) 44⟩] u8 := M
      refine au_then ?_
      refine wp_cond_true (by kernel_rfl) ?_
      refine wp_skip ?_
      refine au_then ?_
      refine wp_seq ?_
      refine wp_block ?_
      refine rg_lit ?_
      refine pl_val (want_no rfl) (some 13) rfl (.pointer (some ⟨g1, 12, none⟩)) (fun _ => by kernel_rfl) ?_
      refine pl_cell M (want_no rfl) (some 14) rfl 37 _ rfl g1 12 (by kernel_rfl) (.int .u32 ((sw f j) 12)) (fun _ => by kernel_rfl) (fun w M => M.cell 4 rfl (by decide) rfl) ?_
      refine pl_val (want_no rfl) (some 15) rfl (.int .u32 (va ((sw f j) 12) 1)) (fun _ => by kernel_rfl) ?_
      refine pl_val (want_no rfl) (some 16) rfl (.pointer (some ⟨g1, 12, none⟩)) (fun _ => by kernel_rfl) ?_
      refine pl_put1 M (want_no rfl) rfl 37 _ _ rfl 4 g1 12 (by kernel_rfl) 16 44 (w32 (sw f j)) rfl (.int .u32 (va ((sw f j) 12) 1)) (w32 (upd (sw f j) 12 (va ((sw f j) 12) 1))) (by kernel_rfl) inz37 (by decide) rfl rfl (fun j _ => put_w32 _ _ _ j) ?_
      intro u56 M
      replace M : Mem ⟨u8, [gs, gc, lp, D, g1]⟩ [⟨gs, .cells (av 1 (fun _ => .string s)) 9⟩, ⟨gc, .cells (av 16 (w32 f)) 44⟩, ⟨lp, .loop (lpr .ready none fn (tF k gs v) sg bd D)⟩, ⟨D, .deferred (some [])⟩, ⟨g1, .cells (av 16 (w32 (upd (sw f j) 12 (va ((sw f j) 12) 1)))) 44⟩] u56 := M
      refine pl_nil ?_
      refine au_block ?_
      refine au_then ?_
      refine rg_lit ?_
      refine pl_val (want_no rfl) (some 11) rfl (.int .i64 ((64 * j : Nat) : Int)) (fun _ => by kernel_rfl) ?_
      refine pl_val (want_no rfl) (some 12) rfl (.int .i64 ((64 * (j + 1) : Nat) : Int)) (fun w => Eq.trans (b := .ok (.value (.int .i64 (IntKind.wrap .i64 (((64 * j : Nat) : Int) + 64)))) w) (by kernel_rfl) (by rw [wrap64 (by omega) (by omega)]; congr 3)) ?_
      refine pl_val (want_no rfl) (some 4) rfl (.int .i64 ((64 * (j + 1) : Nat) : Int)) (fun _ => by kernel_rfl) ?_
      refine pl_nil ?_
      refine au_then ?_
      exact ⟨fun k_ => ([.func (.yield lp) #[] #[], .int .i64 ((64 * j : Nat) : Int), .agg (av 16 (w32 (sw f j))), .agg (av 64 (w8 (bl (sw f j)))), .bool true, .int .i64 ((64 * j : Nat) : Int), .int .i64 ((64 * (j + 1) : Nat) : Int), .pointer (some ⟨g1, 12, none⟩), .int .u32 ((sw f j) 12), .int .u32 (va ((sw f j) 12) 1), .pointer (some ⟨g1, 12, none⟩)] : List Value).getD (k_ - 6) undef, by kernel_rfl, hS6.next M (nrs_cons (nr_cells _ _ (by decide)) (nrs_cons (nr_cells _ _ (by decide)) (nrs_cons (nr_loop _) (nrs_cons (nr_def _) (nrs_cons (nr_cells _ _ (by decide)) (nrs_nil))))))⟩
    · intro a9 u9 hc _
      exact absurd hc (by omega)
  · intro a u0 hI
    clear hS1 M hS
    obtain ⟨v1, rfl, hS⟩ := hI
    have M := hS.mem hL
    replace M : Mem ⟨u0, [gs, gc, lp, D, g1]⟩ [⟨gs, .cells (av 1 (fun _ => .string s)) 9⟩, ⟨gc, .cells (av 16 (w32 f)) 44⟩, ⟨lp, .loop (lpr .ready none fn (tF k gs v) sg bd D)⟩, ⟨D, .deferred (some [])⟩, ⟨g1, .cells (av 16 (w32 (sw f N))) 44⟩] u0 := M
    refine wp_seq ?_
    refine wp_seq ?_
    refine rg_yieldN 4 (by kernel_rfl) (fun _ _ h => by obtain ⟨⟨_, e⟩, _⟩ := h; cases e) ?_
    simp only [List.take_succ_cons, List.take_zero, List.drop_succ_cons, List.drop_zero]
    refine pl_val (want_no rfl) (some 6) rfl (.func (.yield lp) #[] #[]) (fun _ => by kernel_rfl) ?_
    refine pl_val (want_no rfl) (some 7) rfl (.int .i64 ((64 * N : Nat) : Int)) (fun _ => by kernel_rfl) ?_
    refine pl_load M (want_no rfl) (some 8) rfl 44 _ rfl 4 g1 0 (by kernel_rfl) 16 44 (w32 (sw f N)) rfl 16 (w32 (sw f N)) (fun j _ => by rw [Nat.zero_add]) (by decide) _ Tryd.underlying44 rfl inz44 ?_
    refine pl_call M (want_no rfl) (some 9) rfl 37 #[.agg (av 16 (w32 (sw f N)))] (.agg (av 64 (w8 (bl (sw f N))))) (fun _ => by kernel_rfl) (fun w M => c_block (sw f N) w M.laid) ?_
    intro u57 M
    refine pl_nil ?_
    refine au_then ?_
    have hS2 := hS.next M (nrs_cons (nr_cells _ _ (by decide)) (nrs_cons (nr_cells _ _ (by decide)) (nrs_cons (nr_loop _) (nrs_cons (nr_def _) (nrs_cons (nr_cells _ _ (by decide)) (nrs_nil))))))
    refine pl_yield lp (lpr .ready none fn (tF k gs v) sg bd D) #[.int .i64 ((64 * N : Nat) : Int), .agg (av 64 (w8 (bl (sw f N))))] (M.get 2 rfl) rfl rfl (by kernel_rfl) (fun _ => by kernel_rfl) (want_no rfl) ?_
    refine code_is1 (O := Tryd.f24.body.bind findRange) rfl hb ?_
    refine fr_is (b := ⟨#[v 0, v 1, .pointer (some ⟨gs, 0, none⟩), v 3, v 4, .pointer (some ⟨k, 0, none⟩), v 6, v 7, v 8, v 9, v 10, v 11, v 12, v 13, v 14, .int .i64 ((64 * N : Nat) : Int), .agg (av 64 (w8 (bl (sw f N)))), v 17, v 18, v 19, v 20, v 21, v 22, v 23, v 24, v 25, v 26, v 27, v 28, v 29, v 30, v 31, v 32, v 33, v 34, v 35, v 36, v 37, v 38], []⟩) (by kernel_rfl) ?_
    refine wpIn_seq ?_
    refine rr_lit (by kernel_rfl) (fun _ _ h => h) ?_
    refine pl_val (want_no rfl) (some 6) rfl (.int .i64 ((64 * N : Nat) : Int)) (fun _ => by kernel_rfl) ?_
    refine pl_nil ?_
    refine au_then ?_
    refine rr_lit (by kernel_rfl) (fun _ _ h => h) ?_
    refine pl_new M (want_no rfl) (some 7) rfl (.cells (av 64 (w8 (fun _ => 0))) 61) (fun _ => by kernel_rfl) ?_
    intro g103 u108 M
    replace M : Mem ⟨u0, [gs, gc, lp, D, g1]⟩ [⟨gs, .cells (av 1 (fun _ => .string s)) 9⟩, ⟨gc, .cells (av 16 (w32 f)) 44⟩, ⟨lp, .loop (lpr .ready none fn (tF k gs v) sg bd D)⟩, ⟨D, .deferred (some [])⟩, ⟨g1, .cells (av 16 (w32 (sw f N))) 44⟩, ⟨g103, .cells (av 64 (w8 (fun _ => 0))) 61⟩] u108 := M
    refine pl_put M (want_no rfl) rfl 61 _ _ rfl 5 g103 0 (by kernel_rfl) 64 61 (w8 (fun _ => 0)) rfl 64 (w8 (bl (sw f N))) (w8 (bl (sw f N))) (by kernel_rfl) inz61 (by decide) (fun _ _ => rfl) (fun j hj => by rw [if_pos (by omega), Nat.sub_zero]) ?_
    intro u109 M
    replace M : Mem ⟨u0, [gs, gc, lp, D, g1]⟩ [⟨gs, .cells (av 1 (fun _ => .string s)) 9⟩, ⟨gc, .cells (av 16 (w32 f)) 44⟩, ⟨lp, .loop (lpr .ready none fn (tF k gs v) sg bd D)⟩, ⟨D, .deferred (some [])⟩, ⟨g1, .cells (av 16 (w32 (sw f N))) 44⟩, ⟨g103, .cells (av 64 (w8 (bl (sw f N)))) 61⟩] u109 := M
    refine pl_nil ?_
    refine au_then ?_
    refine ⟨M.get 2 rfl, ?_⟩
    have hS3 := (hS.next M (nrs_cons (nr_cells _ _ (by decide)) (nrs_cons (nr_cells _ _ (by decide)) (nrs_cons (nr_loop _) (nrs_cons (nr_def _) (nrs_cons (nr_cells _ _ (by decide)) (nrs_cons (nr_cells _ _ (by decide)) (nrs_nil)))))))).put hL 2 lp _ (.loop { lpr .ready none fn (tF k gs v) sg bd D with state := .busy }) rfl (nr_loop _)
    refine fr_is (b := ⟨#[v 0, v 1, .pointer (some ⟨gs, 0, none⟩), v 3, v 4, .pointer (some ⟨k, 0, none⟩), .int .i64 ((64 * N : Nat) : Int), .pointer (some ⟨g103, 0, none⟩), v 8, v 9, v 10, v 11, v 12, v 13, v 14, .int .i64 ((64 * N : Nat) : Int), .agg (av 64 (w8 (bl (sw f N)))), v 17, v 18, v 19, v 20, v 21, v 22, v 23, v 24, v 25, v 26, v 27, v 28, v 29, v 30, v 31, v 32, v 33, v 34, v 35, v 36, v 37, v 38], []⟩) (by kernel_rfl) ?_
    refine r_body sg bd hb s f N (by omega) hz k gs g103 lp [⟨gc, .cells (av 16 (w32 f)) 44⟩, ⟨lp, .loop (lpr .busy none fn (tF k gs v) sg bd D)⟩, ⟨D, .deferred (some [])⟩, ⟨g1, .cells (av 16 (w32 (sw f N))) 44⟩] (fun k_ => ([v 0, v 1, .pointer (some ⟨gs, 0, none⟩), v 3, v 4, .pointer (some ⟨k, 0, none⟩), .int .i64 ((64 * N : Nat) : Int), .pointer (some ⟨g103, 0, none⟩), v 8, v 9, v 10, v 11, v 12, v 13, v 14, .int .i64 ((64 * N : Nat) : Int), .agg (av 64 (w8 (bl (sw f N)))), v 17, v 18, v 19, v 20, v 21, v 22, v 23, v 24, v 25, v 26, v 27, v 28, v 29, v 30, v 31, v 32, v 33, v 34, v 35, v 36, v 37, v 38] : List Value).getD (k_ - 0) undef) w _ hL _ (fun _ _ h => h) (fun _ _ _ h => h) (hS3.perm (.cons _ (perm_last _ [_, _, _, _]))) ?_ ?_
    · intro a9 u9 hc _
      exact absurd hc (by omega)
    · intro a9 u9 hc hS4
      refine ⟨lpr .busy none fn (tF k gs v) sg bd D, hS4.at_ _ (List.mem_of_getElem? (i := 3) rfl), ?_⟩
      have hS5 := (hS4.put hL 3 lp _ (.loop { lpr .busy none fn (tF k gs v) sg bd D with state := .done, pending := (some (.exit 0)) }) rfl (nr_loop _)).drop (.cons_cons _ (.cons _ (.cons_cons _ (.cons_cons _ (.cons_cons _ (.cons_cons _ .slnil))))))
      generalize u9.putObj lp _ = u8 at hS5 ⊢
      have hS6 : ST w k (ot f s s.size) [⟨gs, .cells (av 1 (fun _ => .string s)) 9⟩, ⟨gc, .cells (av 16 (w32 f)) 44⟩, ⟨lp, .loop (lpr .done (some (.exit 0)) fn (tF k gs v) sg bd D)⟩, ⟨D, .deferred (some [])⟩, ⟨g1, .cells (av 16 (w32 (sw f N))) 44⟩] u8 := hS5
      have M := hS6.mem hL
      replace M : Mem ⟨u8, [gs, gc, lp, D, g1]⟩ [⟨gs, .cells (av 1 (fun _ => .string s)) 9⟩, ⟨gc, .cells (av 16 (w32 f)) 44⟩, ⟨lp, .loop (lpr .done (some (.exit 0)) fn (tF k gs v) sg bd D)⟩, ⟨D, .deferred (some [])⟩, ⟨g1, .cells (av 16 (w32 (sw f N))) 44⟩] u8 := M
      refine au_then ?_
      refine wp_cond_false (by kernel_rfl) ?_
      refine wp_exit ?_
      refine au_then_exit ?_
      refine au_then_exit ?_
      refine au_block_exit ?_
      exact bodyPost_end (v := .tuple #[]) (results_none Tryd.results55 _ _) (by kernel_rfl) ⟨⟨_, rfl⟩, (hS6.next M (nrs_cons (nr_cells _ _ (by decide)) (nrs_cons (nr_cells _ _ (by decide)) (nrs_cons (nr_loop _) (nrs_cons (nr_def _) (nrs_cons (nr_cells _ _ (by decide)) (nrs_nil))))))).drop (.cons_cons _ (.cons_cons _ (.cons_cons _ (.cons_cons _ (.cons _ .slnil)))))⟩

end Go.Proofs.YtkndaajbedlajaaDoor
