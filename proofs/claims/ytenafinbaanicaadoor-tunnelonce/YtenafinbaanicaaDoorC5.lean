/- A text is turned by the stream: the walks of turned, blocksFor, areKeyAndNonce, Block and Turn. -/
import Derived.Test.YtenafinbaanicaaDoorC4
namespace Go.Proofs.YtenafinbaanicaaDoor
open Go.RowKit

open Go.Shelf
theorem ST.alloc2 {w u : World} {k : Nat} {l : List UInt8} {L : List Blk} (h : ST w k l L u) (hL : Laid w) (Z1 Z2 : Obj) (h1 : NR Z1) (h2 : NR Z2) : ST w k l (L ++ [⟨u.heap.size, Z1⟩, ⟨u.heap.size + 1, Z2⟩]) ((u.alloc Z1).alloc Z2) := by
  have M1 := (h.mem hL).new u.heap.size Z1 (new_below u Z1) (heap_alloc_new u Z1) (Nat.le_refl _)
  have e : (u.alloc Z1).heap.size = u.heap.size + 1 := World.size_alloc _ _
  have M2 := M1.new (u.heap.size + 1) Z2 (new_below (u.alloc Z1) Z2) (by rw [← e]; exact heap_alloc_new (u.alloc Z1) Z2) (by rw [e]; exact Nat.le_refl _)
  have h3 := h.next M2 (fun b hb => by
    rcases List.mem_append.1 hb with hb | hb
    · rcases List.mem_append.1 hb with hb | hb
      · exact h.nr b hb
      · rw [List.mem_singleton.1 hb]
        exact h1
    · rw [List.mem_singleton.1 hb]
      exact h2)
  rw [List.append_assoc] at h3
  exact h3
theorem ST.get {w u : World} {k : Nat} {l : List UInt8} {L : List Blk} (h : ST w k l L u) (i : Nat) {g : Nat} {Z : Obj} (hi : L[i]? = some ⟨g, Z⟩) : u.heap[g]? = some Z := h.at_ _ (List.mem_of_getElem? hi)
theorem ST.start {w u : World} {gs gf k n : Nat} {Zs Zf : Obj} (M : Mem ⟨w, []⟩ [⟨gs, Zs⟩, ⟨gf, Zf⟩, ⟨k, .cells (av 2 bF0) 109⟩] u) (h1 : gs < k) (h2 : gf < k) (hs : NR Zs) (hf : NR Zf) (hn : n ≤ 200000) : Calls Tryd.prog 69 #[.pointer (some ⟨k, 0, none⟩), .int .i64 (n : Int)] u fun r u' => r = .returned (.tuple #[]) ∧ ST w k [] [⟨gs, Zs⟩, ⟨gf, Zf⟩] u' := by
  have hkl : k < u.heap.size := (Array.getElem?_eq_some_iff.1 (M.get 2 rfl)).1
  have g1 : w.heap.size ≤ gs := (M.ge _ (List.mem_of_getElem? (i := 0) rfl)).elim id (fun h => by cases h)
  have g2 : w.heap.size ≤ gf := (M.ge _ (List.mem_of_getElem? (i := 1) rfl)).elim id (fun h => by cases h)
  refine (Any.Builder_Grow_fresh (P := Tryd.prog) (ρ := repRen) lays165 repExtra k k n u (Nat.le_refl _) (M.get 2 rfl) (by omega) (by omega)).mono ?_
  rintro r u' ⟨rfl, h3, h4⟩
  have hb0 : Below w.heap.size w u := below_grown M.old
  refine ⟨rfl, hb0.trans (h4.mono (by omega)), by omega, .inr (Lib.BuilderAtF.of h3), ?_, ?_, nrs_cons hs (nrs_cons hf nrs_nil), ?_, ?_⟩
  · intro b hb
    rcases List.mem_cons.1 hb with rfl | hb
    · exact (h4.block gs h1).trans (M.get 0 rfl)
    · rw [List.mem_singleton.1 hb]
      exact (h4.block gf h2).trans (M.get 1 rfl)
  · intro b hb
    rcases List.mem_cons.1 hb with rfl | hb
    · show gs ≠ k
      omega
    · rw [List.mem_singleton.1 hb]
      show gf ≠ k
      omega
  · intro b hb
    rcases List.mem_cons.1 hb with rfl | hb
    · exact g1
    · rw [List.mem_singleton.1 hb]
      exact g2
  · have := M.nodup
    simp at this
    simp [this.1.1]
theorem c_iterT (sg bd : Code) (hb : Tryd.f62.body.bind findRange = some (sg, bd)) (s : ByteArray) (f : Nat → Int) (hz : s.size ≤ 200000) (k gs gc lp D : Nat) (fn : FuncId) (v : Nat → Value) (T : Array Value) (hT : T = tF k gs v) (w u : World) (hL : Laid w)
    (hS : ST w k [] [⟨gs, .cells (av 1 (fun _ => .string s)) 9⟩, ⟨gc, .cells (av 16 (w32 f)) 101⟩, ⟨lp, .loop (lpr .ready none fn T sg bd D)⟩, ⟨D, .deferred (some [])⟩] u) :
    Calls Tryd.prog 87 #[.func (.yield lp) #[] #[], .pointer (some ⟨gc, 0, none⟩)] u fun e u' => (∃ v, e = .returned v) ∧ ∃ r : Loop, r.state ≠ .busy ∧ r.pending = some (.exit 0) ∧ ST w k (ot f s s.size) [⟨gs, .cells (av 1 (fun _ => .string s)) 9⟩, ⟨gc, .cells (av 16 (w32 f)) 101⟩, ⟨lp, .loop r⟩, ⟨D, .deferred (some [])⟩] u' := by
  subst hT
  exact (c_iter sg bd hb s f hz k gs gc lp D fn v w u hL hS).mono fun e u' h => ⟨h.1, lpr .done (some (.exit 0)) fn (tF k gs v) sg bd D, (show LoopState.done ≠ LoopState.busy by decide), rfl, h.2⟩
theorem fr_w {a b : Act} (h : a = b) {c : Code} {P : Program} {Q : Exit → Act → World → Prop} {w : World} (k : c.wp P Q b w) : c.wp P Q a w := by
  rw [h]
  exact k
/-- What a text is turned to. -/
def oS (f : Nat → Int) (s : ByteArray) : ByteArray := ⟨(ot f s s.size).toArray⟩
set_option maxRecDepth 100000 in
set_option maxHeartbeats 4000000 in
theorem c_turned (s : ByteArray) (f : Nat → Int) (hz : s.size ≤ 200000) (w : World) (hL : Laid w) : Calls Tryd.prog 62 #[.string s, .agg (av 16 (w32 f))] w fun r w' => r = .returned (.string (oS f s)) ∧ Below w.heap.size w w' := by
  refine (callsIn_wide (n := 0)).1 (callsIn_of_wp_marks Tryd.func62 rfl trivial ?_)
  refine (wpIn_wide (n := 0)).2 ?_
  refine fr_w (b := (fm ([.string s, .agg (av 16 (w32 f))] ++ und 37))) (by kernel_rfl) ?_
  have M := Mem.start hL
  refine sR ?_
  refine pN M 2 (.cells (av 1 (fun _ => .string s)) 9) fun g1 u1 M => ?_
  refine pN M 3 (.cells (av 16 (w32 f)) 101) fun g2 u2 M => ?_
  refine rV 1 ?_
  refine nT ?_
  refine sR ?_
  refine pl_newB M (want_no rfl) (some 5) rfl (.cells (av 2 bF0) 109) (fun _ => by kernel_rfl) ?_
  intro g3 u3 hlt M
  refine nT ?_
  refine sR ?_
  refine ZE M 10 0 0 ?_
  refine rV 1 ?_
  refine pl_callr (want_no rfl) (some 12) rfl 69 #[.pointer (some ⟨g3, 0, none⟩), .int .i64 (s.size : Int)] (.tuple #[]) _ (fun _ => by kernel_rfl) (ST.start M (hlt _ (List.mem_of_getElem? (i := 0) rfl)) (hlt _ (List.mem_of_getElem? (i := 1) rfl)) (nr_cells _ _ (by decide)) (nr_cells _ _ (by decide)) hz) ?_
  intro u4 hS
  clear M
  have M := hS.mem hL
  refine nT ?_
  refine wp_seq ?_
  refine sR ?_
  refine pA M 13 1 16 (w32 f) ?_
  refine pl_calln M (want_no rfl) (some 14) rfl 70 #[.agg (av 16 (w32 f))] (fun g4 => .func (.func 87) #[] #[.pointer (some ⟨g4, 0, none⟩)]) (.cells (av 16 (w32 f)) 101) (fun _ => by kernel_rfl) (fun w M => c_stream f w M.laid) fun g4 u5 M => ?_
  refine nT ?_
  refine wp_block ?_
  have hS1 := (hS.next M (nrs_cons (nr_cells _ _ (by decide)) (nrs_cons (nr_cells _ _ (by decide)) (nrs_cons (nr_cells _ _ (by decide)) nrs_nil)))).drop (L' := [⟨g1, .cells (av 1 (fun _ => .string s)) 9⟩, ⟨g4, .cells (av 16 (w32 f)) 101⟩]) (.cons_cons _ (.cons _ (.cons_cons _ .slnil)))
  refine fr_w (b := (fm ([.string s, .agg (av 16 (w32 f)), .pointer (some ⟨g1, 0, none⟩), .pointer (some ⟨g2, 0, none⟩), .string ⟨#[]⟩, .pointer (some ⟨g3, 0, none⟩)] ++ und 4 ++ [.string s, .int .i64 (s.size : Int), .tuple #[], .agg (av 16 (w32 f)), .func (.func 87) #[] #[.pointer (some ⟨g4, 0, none⟩)]] ++ und 24))) (by kernel_rfl) ?_
  refine wp_range (gf := 87) (lb := #[.pointer (some ⟨g4, 0, none⟩)]) rfl (enters_of Tryd.func87 (by kernel_rfl) rfl) ?_
  intro fn
  refine (c_iterT _ _ rfl s f hz g3 g1 g4 _ _ fn (fun k_ => ([.string s, .agg (av 16 (w32 f)), .pointer (some ⟨g1, 0, none⟩), .pointer (some ⟨g2, 0, none⟩), .string ⟨#[]⟩, .pointer (some ⟨g3, 0, none⟩), undef, undef, undef, undef, .string s, .int .i64 (s.size : Int), .tuple #[], .agg (av 16 (w32 f)), .func (.func 87) #[] #[.pointer (some ⟨g4, 0, none⟩)], undef, undef, undef, undef, undef, undef, undef, undef, undef, undef, undef, undef, undef, undef, undef, undef, undef, undef, undef, undef, undef, undef, undef, undef] : List Value).getD (k_ - 0) undef) _ (by kernel_rfl) w _ hL ((hS1.alloc2 hL _ _ (nr_def _) (nr_loop _)).perm (.cons _ (.cons _ (.swap _ _ _))))).mono ?_
  rintro e w3 ⟨he, r, hr1, hr2, hS2⟩
  refine ⟨he, r, hS2.get 2 rfl, hr1, ?_⟩
  rw [hr2]
  clear M
  refine wp_exit ?_
  refine au_block_exit ?_
  refine au_then ?_
  refine sR ?_
  refine pl_callr (want_no rfl) (some 38) rfl 72 #[.pointer (some ⟨g3, 0, none⟩)] (.string (oS f s)) _ (fun _ => by kernel_rfl) (hS2.put hL 2 _ _ _ rfl (nr_loop _)).str ?_
  intro u6 hS4
  refine rV 1 ?_
  refine nT ?_
  refine wp_ret ?_
  refine marks_ret (v := .string (oS f s)) rfl (hS4.get 3 rfl) (fun w => results_tmp1 Tryd.results62 _ w _ (by kernel_rfl)) ⟨rfl, (hS4.put hL 3 _ _ (.deferred none) rfl (nr_def _)).bel⟩

end Go.Proofs.YtenafinbaanicaaDoor
