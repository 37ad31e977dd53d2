/- The writer: a builder within a struct. -/
import Derived.Test.YtbechjlkmajcoaaR3
namespace Go.Proofs.Ytbechjlkmajcoaa
open Go.RowKit

section
variable {P : Program} {ops : Array Oper} {o o2 o3 : Oper} {a : Act} {w : World} {Q : Exit → Act → World → Prop} {S : World → Prop} {n fuel : Nat} {listed : Array Bool}
theorem hl_name (h : ∀ H : Nat → Array Bool → Act → World → Prop, (∀ f l a w, H f l a w → HL P ops Q S n f l a w) → (∀ f l a w, HL P ops Q S n f l a w → H f l a w) → H fuel listed a w) : HL P ops Q S n fuel listed a w := h _ (fun _ _ _ _ h => h) (fun _ _ _ _ h => h)
/-- Number i or number j may come up. -/
theorem hl_two (i j : Nat) (hin : i < n) (hjn : j < n) (hr : Region.ready .any ops listed = [i, j]) (hi : ops.toList[i]? = some o) (hj : ops.toList[j]? = some o2)
    (h : PL P ops (Exit.then (fun a' w' => S w' ∧ HL P ops Q S n fuel (listed.setIfInBounds i true) a' w') Q) [o] a w)
    (h2 : PL P ops (Exit.then (fun a' w' => S w' ∧ HL P ops Q S n fuel (listed.setIfInBounds j true) a' w') Q) [o2] a w) : HL P ops Q S n (fuel + 1) listed a w := by
  refine ⟨fun hQ hB inv => ⟨fun h0 => (by rw [hr] at h0; cases h0), fun m hm => ?_⟩⟩
  have hm' := hm
  rw [hr] at hm
  rcases List.mem_cons.1 hm with rfl | hm
  · exact wpOp_mono (fun a' w' h3 => ⟨fun _ => h3.1, h3.2.out hQ hB (inv.set hm' hin)⟩) (wpOp_one (by rw [← Array.getElem?_toList]; exact hi) h.out)
  · obtain rfl := List.mem_singleton.1 hm
    exact wpOp_mono (fun a' w' h3 => ⟨fun _ => h3.1, h3.2.out hQ hB (inv.set hm' hjn)⟩) (wpOp_one (by rw [← Array.getElem?_toList]; exact hj) h2.out)
/-- Number i, number j or number k may come up. -/
theorem hl_three (i j k : Nat) (hin : i < n) (hjn : j < n) (hkn : k < n) (hr : Region.ready .any ops listed = [i, j, k]) (hi : ops.toList[i]? = some o) (hj : ops.toList[j]? = some o2) (hk : ops.toList[k]? = some o3)
    (h : PL P ops (Exit.then (fun a' w' => S w' ∧ HL P ops Q S n fuel (listed.setIfInBounds i true) a' w') Q) [o] a w)
    (h2 : PL P ops (Exit.then (fun a' w' => S w' ∧ HL P ops Q S n fuel (listed.setIfInBounds j true) a' w') Q) [o2] a w)
    (h3 : PL P ops (Exit.then (fun a' w' => S w' ∧ HL P ops Q S n fuel (listed.setIfInBounds k true) a' w') Q) [o3] a w) : HL P ops Q S n (fuel + 1) listed a w := by
  refine ⟨fun hQ hB inv => ⟨fun h0 => (by rw [hr] at h0; cases h0), fun m hm => ?_⟩⟩
  have hm' := hm
  rw [hr] at hm
  rcases List.mem_cons.1 hm with rfl | hm
  · exact wpOp_mono (fun a' w' h3 => ⟨fun _ => h3.1, h3.2.out hQ hB (inv.set hm' hin)⟩) (wpOp_one (by rw [← Array.getElem?_toList]; exact hi) h.out)
  rcases List.mem_cons.1 hm with rfl | hm
  · exact wpOp_mono (fun a' w' h3 => ⟨fun _ => h3.1, h3.2.out hQ hB (inv.set hm' hjn)⟩) (wpOp_one (by rw [← Array.getElem?_toList]; exact hj) h2.out)
  · obtain rfl := List.mem_singleton.1 hm
    exact wpOp_mono (fun a' w' h3 => ⟨fun _ => h3.1, h3.2.out hQ hB (inv.set hm' hkn)⟩) (wpOp_one (by rw [← Array.getElem?_toList]; exact hk) h3.out)
end
section
variable {a : Act} {w : World} {Q : Exit → Act → World → Prop}
theorem au_block_out {id i : Nat} (hn : i ≠ id) (h : Q (.exit i) a w) : Exit.inBlock id Q (.exit i) a w := by
  unfold Exit.inBlock
  simp only [hn, if_false]
  exact h
end
theorem cut_at {P : Program} {x : Code} {K I : Act → World → Prop} {Q : Exit → Act → World → Prop} {a : Act} {w : World} (h1 : x.wp P (Exit.then I Q) a w) (h2 : ∀ a w, I a w → K a w) : x.wp P (Exit.then K Q) a w :=
  wp_mono h1 fun e a w h => by
    cases e <;> first | exact h2 _ _ h | exact h
theorem sz_mk (a : Array UInt8) : (⟨a⟩ : ByteArray).size = a.size := rfl
theorem Mem.startT {w : World} {T : List Blk} (hL : Laid w) (hT : ∀ b ∈ T, w.heap[b.g]? = some b.Z) (hn : (T.map Blk.g).Nodup) : Mem ⟨w, T.map Blk.g⟩ T w := ⟨grown_refl _ _, hT, fun _ hb => .inr (List.mem_map_of_mem hb), hn, hL⟩
theorem run_neqp {a : Act} {o : Oper} (x y : Operand) {rt : TypeId} (ho : o.op = .binOp .neq 55 x y rt) (q : Addr) (hx : a.eval x = .pointer (some q)) (hy : a.eval y = .pointer (some q)) (w : World) : (execOp a.eval o).run Try.prog w = .ok (.value (.bool false)) w := by
  have hj : ∃ j, Try.prog.info? 57 = some j := by
    have h2 : (Try.prog.info? 57).map (·.size) = some 2 := by kernel_rfl
    cases h : Try.prog.info? 57 with
    | none => rw [h] at h2; cases h2
    | some i => exact ⟨i, rfl⟩
  obtain ⟨j, hj⟩ := hj
  have h := Lib.run_neq_ptr_same (P := Try.prog) w q Try.underlying55 hj
  unfold execOp
  simp only [ho, hx, hy, Sem.run_bind]
  have e : (eqGuard .neq 55 x y (.pointer (some q)) (.pointer (some q))).run Try.prog w = .ok () w := by rfl
  rw [e]
  simp only [Result.andThen_ok, h, Sem.run_pure]
section
variable {ops : Array Oper} {rest : List Oper} {o : Oper} {a : Act} {w : World} {c : Ctx} {L : List Blk} {Q : Exit → Act → World → Prop}
theorem pl_toU (M : Mem c L w) (hw : Region.wanted o (yielded ops a.tmps) = true) (d : Option Tmp) (hd : o.dst = d) (x : Operand) (ho : o.op = .convert 55 119 x) (i g : Nat) (cs : Array Value) (hi : L[i]? = some ⟨g, .cells cs 59⟩) (hc : cs.size = 3) (hx : a.eval x = .pointer (some ⟨g, 1, none⟩)) (h : PL Try.prog ops Q rest (a.put d (.pointer (some ⟨g, 1, none⟩))) w) : PL Try.prog ops Q (o :: rest) a w := by
  have hs : ∃ j, Try.prog.info? 57 = some j ∧ j.size = 2 := by
    have h2 : (Try.prog.info? 57).map (·.size) = some 2 := by kernel_rfl
    cases h : Try.prog.info? 57 with
    | none => rw [h] at h2; cases h2
    | some i => rw [h] at h2; exact ⟨i, rfl, by simpa using h2⟩
  obtain ⟨j, hj, hj2⟩ := hs
  have hg := M.get i hi
  have hr := Lib.run_to_unsafe (P := Try.prog) w ⟨g, 1, none⟩ Try.underlying55 Try.underlying119 hj (by rw [hj2]; decide) (e := 59) (cells := 3) (by simp [World.shape?, hg, hc]) (by show 1 < 3; decide)
  refine pl_to hw d hd _ w ?_ h
  unfold execOp
  simp only [ho, hx, Sem.run_bind, hr, Result.andThen_ok, Sem.run_pure]
theorem pl_ofU (M : Mem c L w) (hw : Region.wanted o (yielded ops a.tmps) = true) (d : Option Tmp) (hd : o.dst = d) (x : Operand) (ho : o.op = .convert 119 55 x) (i g : Nat) (cs : Array Value) (hi : L[i]? = some ⟨g, .cells cs 59⟩) (hc : cs.size = 3) (hx : a.eval x = .pointer (some ⟨g, 1, none⟩)) (h : PL Try.prog ops Q rest (a.put d (.pointer (some ⟨g, 1, none⟩))) w) : PL Try.prog ops Q (o :: rest) a w := by
  have hs : ∃ j, Try.prog.info? 57 = some j := by
    have h2 : (Try.prog.info? 57).map (·.size) = some 2 := by kernel_rfl
    cases h : Try.prog.info? 57 with
    | none => rw [h] at h2; cases h2
    | some i => exact ⟨i, rfl⟩
  obtain ⟨j, hj⟩ := hs
  have hg := M.get i hi
  have hr := Lib.run_from_unsafe (P := Try.prog) w ⟨g, 1, none⟩ Try.underlying119 Try.underlying55 hj (e := 59) (cells := 3) (by simp [World.shape?, hg, hc]) (by kernel_rfl)
  refine pl_to hw d hd _ w ?_ h
  unfold execOp
  simp only [ho, hx, Sem.run_bind, hr, Result.andThen_ok, Sem.run_pure]
/-- The first byte of a slice that was nil. -/
theorem pl_app0S (M : Mem c L w) (hw : Region.wanted o (yielded ops a.tmps) = true) (d : Option Tmp) (hd : o.dst = d) (j gx Tx : Nat) (v : Value) (hj : L[j]? = some ⟨gx, .cells (av 1 (ls [v])) Tx⟩)
    (hrun : ∀ w, (execOp a.eval o).run Try.prog w = (do pure (Next.value (← Builtin.append_ #[49, 49] 49 #[.slice none 0 0, .slice (some ⟨gx, 0, none⟩) 1 1]))).run Try.prog w)
    (h : ∀ g' cap' Z' w', SC Z' cap' [v] → Mem c (L ++ [⟨g', Z'⟩]) w' → PL Try.prog ops Q rest (a.put d (.slice (some ⟨g', 0, none⟩) 1 cap')) w') : PL Try.prog ops Q (o :: rest) a w := by
  obtain ⟨inf, i1, i2, i3, i4⟩ := info5
  have hcell : w.cell? ⟨gx, 0, none⟩ = some v := cell_av (M.get j hj) (i := 0) (by decide)
  have hr := run_append_nil (P := Try.prog) w 49 49 5 inf (.int .u8 0) Try.underlying49 i1 i2 ⟨gx, 0, none⟩ 1 1 [v] (by rw [i3]; rfl) (fun k u hu => by
      cases k with
      | zero => simp at hu; subst hu; rw [add_at]; exact hcell
      | succ k => simp at hu) (by omega) (by omega) (by omega)
  have hge := grownCap_ge w 1 0 5
  generalize grownCap w 1 0 5 = nc at hr hge
  have hr2 : (execOp a.eval o).run Try.prog w = .ok (.value (.slice (some ⟨w.heap.size, 0, none⟩) 1 nc)) (w.drew.alloc (.cells ([v].toArray ++ Builtin.zeroCells (Value.int .u8 0).cells (nc - 1)) 5)) := by
    rw [hrun]
    simp only [Sem.run_bind, hr, Result.andThen_ok, Sem.run_pure]
  refine pl_to hw d hd _ _ hr2 (h w.heap.size nc (.cells ([v].toArray ++ Builtin.zeroCells (Value.int .u8 0).cells (nc - 1)) 5) _ ⟨_, rfl, by simp; omega, ?_, fun k hk => ?_⟩ ?_)
  · simp only [Array.size_append, List.size_toArray, List.length_cons, List.length_nil, size_zeroCells]
    rw [show (Value.int .u8 0).cells.size = 1 from rfl, Nat.mul_one]
    omega
  · rw [Array.getElem?_append_left (by simpa using hk)]
    simp
  · exact M.drew.new w.heap.size _ (new_below _ _) (heap_alloc_new w.drew _) (Nat.le_refl _)
end
/-- A writer with the bytes x. -/
def WR (g : Nat) (h : Int) (x : ByteArray) (T : List Blk) : Prop := ∃ gb cap Z, T = [⟨g, .cells (av 3 (ls [.int .u16 h, .pointer (some ⟨g, 1, none⟩), .slice (some ⟨gb, 0, none⟩) x.size cap])) 59⟩, ⟨gb, Z⟩] ∧ SC Z cap (vs8 (sb x))
set_option maxRecDepth 100000 in
set_option maxHeartbeats 4000000 in
set_option linter.unusedSimpArgs false in
theorem c_chkU (g : Nat) (h : Int) (so : Option Addr) (n k : Nat) (w : World) (hL : Laid w)  (hg : w.heap[g]? = some (.cells (av 3 (ls [.int .u16 h, .pointer (some ⟨g, 1, none⟩), .slice so n k])) 59)) :
    Calls Try.prog 60 #[.pointer (some ⟨g, 1, none⟩)] w fun r w' => r = .returned (.tuple #[]) ∧ Below w.heap.size w w' := by
  go_enter Try.func60, Try.ntmps60
  have M := Mem.startp hL hg
  refine wp_seq ?_
  refine rg_lit ?_
  refine pl_val (want_no rfl) (some 2) rfl (.pointer (some ⟨g, 1, none⟩)) (fun _ => by kernel_rfl) ?_
  refine pl_val (want_no rfl) (some 3) rfl (.pointer (some ⟨g, 1, none⟩)) (fun _ => by kernel_rfl) ?_
  refine pl_val (want_no rfl) (some 4) rfl (.pointer (some ⟨g, 1, none⟩)) (fun _ => by kernel_rfl) ?_
  refine pl_cell M (want_no rfl) (some 5) rfl 55 _ rfl g 1 (by kernel_rfl) (.pointer (some ⟨g, 1, none⟩)) (fun _ => by kernel_rfl) (fun w M => M.cell 0 rfl (by decide) rfl) ?_
  refine pl_val (want_no rfl) (some 6) rfl (.bool false) (fun _ => by kernel_rfl) ?_
  refine pl_nil ?_
  refine au_then ?_
  refine wp_cond_false (by kernel_rfl) ?_
  refine wp_seq ?_
  refine rg_lit ?_
  refine pl_val (want_no rfl) (some 14) rfl (.pointer (some ⟨g, 1, none⟩)) (fun _ => by kernel_rfl) ?_
  refine pl_val (want_no rfl) (some 15) rfl (.pointer (some ⟨g, 1, none⟩)) (fun _ => by kernel_rfl) ?_
  refine pl_val (want_no rfl) (some 16) rfl (.pointer (some ⟨g, 1, none⟩)) (fun _ => by kernel_rfl) ?_
  refine pl_cell M (want_no rfl) (some 17) rfl 55 _ rfl g 1 (by kernel_rfl) (.pointer (some ⟨g, 1, none⟩)) (fun _ => by kernel_rfl) (fun w M => M.cell 0 rfl (by decide) rfl) ?_
  refine pl_val (want_no rfl) (some 18) rfl (.pointer (some ⟨g, 1, none⟩)) (fun _ => by kernel_rfl) ?_
  refine pl_val (want_no rfl) (some 19) rfl (.bool false) (run_neqp _ _ rfl ⟨g, 1, none⟩ (by kernel_rfl) (by kernel_rfl)) ?_
  refine pl_nil ?_
  refine au_then ?_
  refine wp_cond_false (by kernel_rfl) ?_
  refine wp_skip ?_
  exact bodyPost_end (v := .tuple #[]) (results_none Try.results60 _ _) (by kernel_rfl) ⟨rfl, ro_below1 M.old hg (M.get 0 rfl)⟩

set_option maxRecDepth 100000 in
set_option maxHeartbeats 4000000 in
set_option linter.unusedSimpArgs false in
theorem c_chkF (g : Nat) (h : Int) (w : World) (hL : Laid w)  (hg : w.heap[g]? = some (.cells (av 3 (ls [.int .u16 h, .pointer none, .slice none 0 0])) 59)) :
    Calls Try.prog 60 #[.pointer (some ⟨g, 1, none⟩)] w fun r w' => r = .returned (.tuple #[]) ∧ Grw w w' [g] ∧ w'.heap[g]? = some (.cells (av 3 (ls [.int .u16 h, .pointer (some ⟨g, 1, none⟩), .slice none 0 0])) 59) := by
  go_enter Try.func60, Try.ntmps60
  have M := Mem.startp hL hg
  refine wp_seq ?_
  refine rg_lit ?_
  refine pl_val (want_no rfl) (some 2) rfl (.pointer (some ⟨g, 1, none⟩)) (fun _ => by kernel_rfl) ?_
  refine pl_val (want_no rfl) (some 3) rfl (.pointer (some ⟨g, 1, none⟩)) (fun _ => by kernel_rfl) ?_
  refine pl_val (want_no rfl) (some 4) rfl (.pointer (some ⟨g, 1, none⟩)) (fun _ => by kernel_rfl) ?_
  refine pl_cell M (want_no rfl) (some 5) rfl 55 _ rfl g 1 (by kernel_rfl) (.pointer none) (fun _ => by kernel_rfl) (fun w M => M.cell 0 rfl (by decide) rfl) ?_
  refine pl_val (want_no rfl) (some 6) rfl (.bool true) (fun _ => by kernel_rfl) ?_
  refine pl_nil ?_
  refine au_then ?_
  refine wp_cond_true (by kernel_rfl) ?_
  refine rg_lit ?_
  refine pl_val (want_no rfl) (some 7) rfl (.pointer (some ⟨g, 1, none⟩)) (fun _ => by kernel_rfl) ?_
  refine pl_val (want_no rfl) (some 8) rfl (.pointer (some ⟨g, 1, none⟩)) (fun _ => by kernel_rfl) ?_
  refine pl_toU M (want_no rfl) (some 9) rfl _ rfl 0 g _ rfl rfl (by kernel_rfl) ?_
  refine pl_val (want_no rfl) (some 10) rfl (.pointer (some ⟨g, 1, none⟩)) (fun _ => by kernel_rfl) ?_
  refine pl_ofU M (want_no rfl) (some 11) rfl _ rfl 0 g _ rfl rfl (by kernel_rfl) ?_
  refine pl_val (want_no rfl) (some 12) rfl (.pointer (some ⟨g, 1, none⟩)) (fun _ => by kernel_rfl) ?_
  refine pl_val (want_no rfl) (some 13) rfl (.pointer (some ⟨g, 1, none⟩)) (fun _ => by kernel_rfl) ?_
  refine pl_put1 M (want_no rfl) rfl 55 _ _ rfl 0 g 1 (by kernel_rfl) 3 59 (ls [.int .u16 h, .pointer none, .slice none 0 0]) rfl (.pointer (some ⟨g, 1, none⟩)) (ls [.int .u16 h, .pointer (some ⟨g, 1, none⟩), .slice none 0 0]) (by kernel_rfl) inz55 (by decide) rfl rfl (put_ls _ 1 _ _ rfl) ?_
  intro u1 M
  replace M : Mem ⟨w, [g]⟩ [⟨g, .cells (av 3 (ls [.int .u16 h, .pointer (some ⟨g, 1, none⟩), .slice none 0 0])) 59⟩] u1 := M
  refine pl_nil ?_
  exact bodyPost_end (v := .tuple #[]) (results_none Try.results60 _ _) (by kernel_rfl) ⟨rfl, M.old, M.get 0 rfl⟩

set_option maxRecDepth 100000 in
set_option maxHeartbeats 4000000 in
set_option linter.unusedSimpArgs false in
theorem c_wbyte (g : Nat) (h b : Int) (hb : 0 ≤ b ∧ b < 256) (w : World) (hL : Laid w)  (hg : w.heap[g]? = some (.cells (av 3 (ls [.int .u16 h, .pointer none, .slice none 0 0])) 59)) :
    Calls Try.prog 39 #[.pointer (some ⟨g, 1, none⟩), .int .u8 b] w fun e w' => e = .returned .nilIface ∧ ∃ T', WR g h (bs [b]) T' ∧ OkT w w' [⟨g, .cells (av 3 (ls [.int .u16 h, .pointer none, .slice none 0 0])) 59⟩] T' := by
  go_enter Try.func39, Try.ntmps39
  have M := Mem.startp hL hg
  refine wp_seq ?_
  refine rg_lit ?_
  refine pl_val (want_no rfl) (some 4) rfl (.nilIface) (fun _ => by kernel_rfl) ?_
  refine pl_nil ?_
  refine au_then ?_
  refine wp_seq ?_
  refine rg_lit ?_
  refine pl_val (want_no rfl) (some 5) rfl (.pointer (some ⟨g, 1, none⟩)) (fun _ => by kernel_rfl) ?_
  refine pl_callp M (want_no rfl) (some 6) rfl 60 #[.pointer (some ⟨g, 1, none⟩)] (.tuple #[]) 0 g (.cells (av 3 (ls [.int .u16 h, .pointer none, .slice none 0 0])) 59) (.cells (av 3 (ls [.int .u16 h, .pointer (some ⟨g, 1, none⟩), .slice none 0 0])) 59) rfl (fun _ => by kernel_rfl) (fun w M => c_chkF g h w M.laid (M.get 0 rfl)) ?_
  intro u1 M
  replace M : Mem ⟨w, [g]⟩ [⟨g, .cells (av 3 (ls [.int .u16 h, .pointer (some ⟨g, 1, none⟩), .slice none 0 0])) 59⟩] u1 := M
  refine pl_nil ?_
  refine au_then ?_
  refine wp_seq ?_
  refine rg_lit ?_
  refine pl_val (want_no rfl) (some 7) rfl (.pointer (some ⟨g, 1, none⟩)) (fun _ => by kernel_rfl) ?_
  refine pl_val (want_no rfl) (some 8) rfl (.pointer (some ⟨g, 1, none⟩)) (fun _ => by kernel_rfl) ?_
  refine pl_val (want_no rfl) (some 9) rfl (.pointer (some ⟨g, 1, none⟩)) (fun _ => by kernel_rfl) ?_
  refine pl_val (want_no rfl) (some 10) rfl (.pointer (some ⟨g, 2, none⟩)) (fun _ => by kernel_rfl) ?_
  refine pl_cell M (want_no rfl) (some 11) rfl 49 _ rfl g 2 (by kernel_rfl) (.slice none 0 0) (fun _ => by kernel_rfl) (fun w M => M.cell 0 rfl (by decide) rfl) ?_
  refine pl_val (want_no rfl) (some 12) rfl (.int .u8 b) (fun _ => by kernel_rfl) ?_
  refine pl_mk M (want_no rfl) (some 13) rfl (fun g1 => .slice (some ⟨g1, 0, none⟩) 1 1) (.cells (av 1 (ls [.int .u8 b])) 5) (fun _ => by kernel_rfl) ?_
  intro g1 u2 M
  replace M : Mem ⟨w, [g]⟩ [⟨g, .cells (av 3 (ls [.int .u16 h, .pointer (some ⟨g, 1, none⟩), .slice none 0 0])) 59⟩, ⟨g1, .cells (av 1 (ls [.int .u8 b])) 5⟩] u2 := M
  refine pl_app0S M (want_no rfl) (some 14) rfl 1 g1 5 (.int .u8 b) rfl (fun _ => by kernel_rfl) ?_
  intro g9 cap9 Z9 u3 hs9 M
  replace M : Mem ⟨w, [g]⟩ [⟨g, .cells (av 3 (ls [.int .u16 h, .pointer (some ⟨g, 1, none⟩), .slice none 0 0])) 59⟩, ⟨g1, .cells (av 1 (ls [.int .u8 b])) 5⟩, ⟨g9, Z9⟩] u3 := M
  refine pl_val (want_no rfl) (some 15) rfl (.pointer (some ⟨g, 1, none⟩)) (fun _ => by kernel_rfl) ?_
  refine pl_val (want_no rfl) (some 16) rfl (.pointer (some ⟨g, 2, none⟩)) (fun _ => by kernel_rfl) ?_
  refine pl_put1 M (want_no rfl) rfl 49 _ _ rfl 0 g 2 (by kernel_rfl) 3 59 (ls [.int .u16 h, .pointer (some ⟨g, 1, none⟩), .slice none 0 0]) rfl (.slice (some ⟨g9, 0, none⟩) 1 cap9) (ls [.int .u16 h, .pointer (some ⟨g, 1, none⟩), .slice (some ⟨g9, 0, none⟩) 1 cap9]) (by kernel_rfl) inz49 (by decide) rfl rfl (put_ls _ 2 _ _ rfl) ?_
  intro u4 M
  replace M : Mem ⟨w, [g]⟩ [⟨g, .cells (av 3 (ls [.int .u16 h, .pointer (some ⟨g, 1, none⟩), .slice (some ⟨g9, 0, none⟩) 1 cap9])) 59⟩, ⟨g1, .cells (av 1 (ls [.int .u8 b])) 5⟩, ⟨g9, Z9⟩] u4 := M
  refine pl_nil ?_
  refine au_then ?_
  refine wp_seq ?_
  refine rg_lit ?_
  refine pl_val (want_no rfl) (some 4) rfl (.nilIface) (fun _ => by kernel_rfl) ?_
  refine pl_nil ?_
  refine au_then ?_
  refine wp_ret ?_
  have M2 := (M.perm (List.Perm.swap _ _ _) : Mem _ [⟨g1, .cells (av 1 (ls [.int .u8 b])) 5⟩, ⟨g, .cells (av 3 (ls [.int .u16 h, .pointer (some ⟨g, 1, none⟩), .slice (some ⟨g9, 0, none⟩) 1 cap9])) 59⟩, ⟨g9, Z9⟩] _)
  exact bodyPost_ret (v := .nilIface) (results_tmp1 Try.results39 _ _ _ (by kernel_rfl)) (by kernel_rfl) ⟨rfl, _, ⟨g9, cap9, Z9, rfl, by rw [sb_bs _ (by simpa using hb)]; exact hs9⟩, Mem.okT (T := [⟨g, _⟩]) (L := [⟨g1, .cells (av 1 (ls [.int .u8 b])) 5⟩]) M2⟩

theorem vs8_app (a b : List Int) : vs8 (a ++ b) = vs8 a ++ vs8 b := by simp [vs8]
set_option maxRecDepth 100000 in
set_option maxHeartbeats 4000000 in
set_option linter.unusedSimpArgs false in
theorem c_wstr (g : Nat) (h : Int) (x : ByteArray) (T : List Blk) (hWR : WR g h x T) (s : ByteArray) (hz : x.size + s.size < 1000000) (w : World) (hL : Laid w) (hT : ∀ b ∈ T, w.heap[b.g]? = some b.Z) (hn : (T.map Blk.g).Nodup) :
    Calls Try.prog 40 #[.pointer (some ⟨g, 1, none⟩), .string s] w fun e w' => e = .returned (.tuple #[.int .i64 (s.size : Int), .nilIface]) ∧ ∃ T', WR g h (x ++ s) T' ∧ OkT w w' T T' := by
  go_enter Try.func40, Try.ntmps40
  have M := Mem.start hL
  obtain ⟨gb, cap, Z, rfl, hs⟩ := hWR
  have M : Mem ⟨w, [g, gb]⟩ [⟨g, .cells (av 3 (ls [.int .u16 h, .pointer (some ⟨g, 1, none⟩), .slice (some ⟨gb, 0, none⟩) x.size cap])) 59⟩, ⟨gb, Z⟩] w := Mem.startT hL hT hn
  refine wp_seq ?_
  refine rg_lit ?_
  refine pl_val (want_no rfl) (some 4) rfl (.int .i64 0) (fun _ => by kernel_rfl) ?_
  refine pl_val (want_no rfl) (some 5) rfl (.nilIface) (fun _ => by kernel_rfl) ?_
  refine pl_nil ?_
  refine au_then ?_
  refine wp_seq ?_
  refine rg_lit ?_
  refine pl_val (want_no rfl) (some 6) rfl (.pointer (some ⟨g, 1, none⟩)) (fun _ => by kernel_rfl) ?_
  refine pl_call M (want_no rfl) (some 7) rfl 60 #[.pointer (some ⟨g, 1, none⟩)] (.tuple #[]) (fun _ => by kernel_rfl) (fun w M => c_chkU g h (some ⟨gb, 0, none⟩) x.size cap w M.laid (M.get 0 rfl)) ?_
  intro u1 M
  refine pl_nil ?_
  refine au_then ?_
  refine wp_seq ?_
  refine rg_lit ?_
  refine pl_val (want_no rfl) (some 8) rfl (.pointer (some ⟨g, 1, none⟩)) (fun _ => by kernel_rfl) ?_
  refine pl_val (want_no rfl) (some 9) rfl (.pointer (some ⟨g, 1, none⟩)) (fun _ => by kernel_rfl) ?_
  refine pl_val (want_no rfl) (some 10) rfl (.pointer (some ⟨g, 1, none⟩)) (fun _ => by kernel_rfl) ?_
  refine pl_val (want_no rfl) (some 11) rfl (.pointer (some ⟨g, 2, none⟩)) (fun _ => by kernel_rfl) ?_
  refine pl_cell M (want_no rfl) (some 12) rfl 49 _ rfl g 2 (by kernel_rfl) (.slice (some ⟨gb, 0, none⟩) x.size cap) (fun _ => by kernel_rfl) (fun w M => M.cell 0 rfl (by decide) rfl) ?_
  refine pl_val (want_no rfl) (some 13) rfl (.string s) (fun _ => by kernel_rfl) ?_
  refine pl_appS M (want_no rfl) (some 14) rfl 1 gb x.size cap Z (vs8 (sb x)) rfl hs (by rw [vs8_length, sb_length]) s (by omega) (fun _ => by kernel_rfl) ?_
  intro g9 cap9 Z9 u2 hs9 M
  replace M : Mem ⟨w, [g, gb]⟩ [⟨g, .cells (av 3 (ls [.int .u16 h, .pointer (some ⟨g, 1, none⟩), .slice (some ⟨gb, 0, none⟩) x.size cap])) 59⟩, ⟨g9, Z9⟩] u2 := M
  refine pl_val (want_no rfl) (some 15) rfl (.pointer (some ⟨g, 1, none⟩)) (fun _ => by kernel_rfl) ?_
  refine pl_val (want_no rfl) (some 16) rfl (.pointer (some ⟨g, 2, none⟩)) (fun _ => by kernel_rfl) ?_
  refine pl_put1 M (want_no rfl) rfl 49 _ _ rfl 0 g 2 (by kernel_rfl) 3 59 (ls [.int .u16 h, .pointer (some ⟨g, 1, none⟩), .slice (some ⟨gb, 0, none⟩) x.size cap]) rfl (.slice (some ⟨g9, 0, none⟩) (x.size + s.size) cap9) (ls [.int .u16 h, .pointer (some ⟨g, 1, none⟩), .slice (some ⟨g9, 0, none⟩) (x.size + s.size) cap9]) (by kernel_rfl) inz49 (by decide) rfl rfl (put_ls _ 2 _ _ rfl) ?_
  intro u3 M
  replace M : Mem ⟨w, [g, gb]⟩ [⟨g, .cells (av 3 (ls [.int .u16 h, .pointer (some ⟨g, 1, none⟩), .slice (some ⟨g9, 0, none⟩) (x.size + s.size) cap9])) 59⟩, ⟨g9, Z9⟩] u3 := M
  refine pl_nil ?_
  refine au_then ?_
  refine wp_seq ?_
  refine rg_lit ?_
  refine pl_val (want_no rfl) (some 17) rfl (.string s) (fun _ => by kernel_rfl) ?_
  refine pl_val (want_no rfl) (some 18) rfl (.int .i64 (s.size : Int)) (fun _ => by kernel_rfl) ?_
  refine pl_val (want_no rfl) (some 4) rfl (.int .i64 (s.size : Int)) (fun _ => by kernel_rfl) ?_
  refine pl_val (want_no rfl) (some 5) rfl (.nilIface) (fun _ => by kernel_rfl) ?_
  refine pl_nil ?_
  refine au_then ?_
  refine wp_ret ?_
  have e9 : (x ++ s).size = x.size + s.size := ByteArray.size_append
  exact bodyPost_ret (v := .tuple #[.int .i64 (s.size : Int), .nilIface]) (results_tmp2 Try.results40 _ _ _ _ (by kernel_rfl) (by kernel_rfl)) (by kernel_rfl) ⟨rfl, _, ⟨g9, cap9, Z9, by rw [e9], by rw [sb_append, vs8_app]; exact hs9⟩, Mem.okT (T := [⟨g, .cells (av 3 (ls [.int .u16 h, .pointer (some ⟨g, 1, none⟩), .slice (some ⟨gb, 0, none⟩) x.size cap])) 59⟩, ⟨gb, Z⟩]) (L := []) M⟩

set_option maxRecDepth 100000 in
set_option maxHeartbeats 4000000 in
set_option linter.unusedSimpArgs false in
theorem c_bstr (g : Nat) (h : Int) (x : ByteArray) (T : List Blk) (hWR : WR g h x T) (h0 : x.size ≠ 0) (hz : x.size < 1000000) (w : World) (hL : Laid w) (hT : ∀ b ∈ T, w.heap[b.g]? = some b.Z) (hn : (T.map Blk.g).Nodup) :
    Calls Try.prog 23 #[.pointer (some ⟨g, 1, none⟩)] w fun e w' => e = .returned (.string x) ∧ ∃ T', True ∧ OkT w w' T T' := by
  go_enter Try.func23, Try.ntmps23
  have M := Mem.start hL
  obtain ⟨gb, cap, Z, rfl, hs⟩ := hWR
  have hcap : x.size ≤ cap := by have := hs.sb.le; rwa [vs8_length, sb_length] at this
  have M : Mem ⟨w, [g, gb]⟩ [⟨g, .cells (av 3 (ls [.int .u16 h, .pointer (some ⟨g, 1, none⟩), .slice (some ⟨gb, 0, none⟩) x.size cap])) 59⟩, ⟨gb, Z⟩] w := Mem.startT hL hT hn
  refine wp_seq ?_
  refine rg_lit ?_
  refine pl_val (want_no rfl) (some 2) rfl (.string ⟨#[]⟩) (fun _ => by kernel_rfl) ?_
  refine pl_nil ?_
  refine au_then ?_
  refine wp_seq ?_
  refine rg_held M [⟨g, .cells (av 3 (ls [.int .u16 h, .pointer (some ⟨g, 1, none⟩), .slice (some ⟨gb, 0, none⟩) x.size cap])) 59⟩] 11 rfl (by kernel_rfl) (by kernel_rfl) (fun _ _ d _ _ h => by cases d <;> exact h) ?_
  intro u1 M
  replace M : Mem ⟨w, [g, gb]⟩ [⟨g, .cells (av 3 (ls [.int .u16 h, .pointer (some ⟨g, 1, none⟩), .slice (some ⟨gb, 0, none⟩) x.size cap])) 59⟩, ⟨gb, Z⟩] u1 := M
  refine hl_val (M.drop (.cons_cons _ (.cons _ (.slnil)))) 0 rfl (by decide) (by kernel_rfl) (by kernel_rfl) (want_no rfl) (some 3) rfl (.pointer (some ⟨g, 1, none⟩)) (fun _ _ => by kernel_rfl) ?_
  refine hl_val (M.drop (.cons_cons _ (.cons _ (.slnil)))) 1 rfl (by decide) (by kernel_rfl) (by kernel_rfl) (want_no rfl) (some 4) rfl (.pointer (some ⟨g, 1, none⟩)) (fun _ _ => by kernel_rfl) ?_
  refine hl_val (M.drop (.cons_cons _ (.cons _ (.slnil)))) 2 rfl (by decide) (by kernel_rfl) (by kernel_rfl) (want_no rfl) (some 5) rfl (.pointer (some ⟨g, 2, none⟩)) (fun _ _ => by kernel_rfl) ?_
  refine hl_cell (M.drop (.cons_cons _ (.cons _ (.slnil)))) 3 rfl (by decide) (by kernel_rfl) (by kernel_rfl) (want_no rfl) (some 6) rfl 49 _ rfl g 2 (by kernel_rfl) (.slice (some ⟨gb, 0, none⟩) x.size cap) (fun _ => by kernel_rfl) (fun w M => M.cell 0 rfl (by decide) rfl) ?_
  refine hl_val (M.drop (.cons_cons _ (.cons _ (.slnil)))) 4 rfl (by decide) (by kernel_rfl) (by kernel_rfl) (want_no rfl) (some 7) rfl (.pointer (some ⟨gb, 0, none⟩)) (fun w _ => (fun w => Eq.trans (b := (do pure (Next.value (← Builtin.unsafeSliceData_ #[49] 90 #[.slice (some ⟨gb, 0, none⟩) x.size cap]))).run Try.prog w) (by kernel_rfl) (by simp only [Sem.run_bind, Lib.run_unsafeSliceData_row w #[49] 90 ⟨gb, 0, none⟩ x.size cap (by omega), Result.andThen_ok, Sem.run_pure])) w) ?_
  refine hl_val (M.drop (.cons_cons _ (.cons _ (.slnil)))) 5 rfl (by decide) (by kernel_rfl) (by kernel_rfl) (want_no rfl) (some 8) rfl (.pointer (some ⟨g, 1, none⟩)) (fun _ _ => by kernel_rfl) ?_
  refine hl_val (M.drop (.cons_cons _ (.cons _ (.slnil)))) 6 rfl (by decide) (by kernel_rfl) (by kernel_rfl) (want_no rfl) (some 9) rfl (.pointer (some ⟨g, 1, none⟩)) (fun _ _ => by kernel_rfl) ?_
  refine hl_val (M.drop (.cons_cons _ (.cons _ (.slnil)))) 7 rfl (by decide) (by kernel_rfl) (by kernel_rfl) (want_no rfl) (some 10) rfl (.pointer (some ⟨g, 2, none⟩)) (fun _ _ => by kernel_rfl) ?_
  refine hl_cell (M.drop (.cons_cons _ (.cons _ (.slnil)))) 8 rfl (by decide) (by kernel_rfl) (by kernel_rfl) (want_no rfl) (some 11) rfl 49 _ rfl g 2 (by kernel_rfl) (.slice (some ⟨gb, 0, none⟩) x.size cap) (fun _ => by kernel_rfl) (fun w M => M.cell 0 rfl (by decide) rfl) ?_
  refine hl_val (M.drop (.cons_cons _ (.cons _ (.slnil)))) 9 rfl (by decide) (by kernel_rfl) (by kernel_rfl) (want_no rfl) (some 12) rfl (.int .i64 ((x.size : Nat) : Int)) (fun _ _ => by kernel_rfl) ?_
  refine hl_one 10 (by decide) (by kernel_rfl) rfl ?_
  refine pl_ustr M (want_no rfl) (some 13) rfl 1 gb x.size cap Z x rfl hs rfl (by omega) (by omega) (fun _ => by kernel_rfl) ?_
  intro Z9 u2 M
  replace M : Mem ⟨w, [g, gb]⟩ [⟨g, .cells (av 3 (ls [.int .u16 h, .pointer (some ⟨g, 1, none⟩), .slice (some ⟨gb, 0, none⟩) x.size cap])) 59⟩, ⟨gb, Z9⟩] u2 := M
  refine pl_nil ?_
  refine au_then ?_
  refine ⟨(M.drop (.cons_cons _ (.cons _ (.slnil)))), ?_⟩
  refine hl_end (by kernel_rfl) (by kernel_rfl) rfl ?_
  refine pl_val (want_no rfl) (some 2) rfl (.string x) (fun _ => by kernel_rfl) ?_
  refine pl_nil ?_
  refine au_then ?_
  refine au_then ?_
  refine wp_ret ?_
  exact bodyPost_ret (v := .string x) (results_tmp1 Try.results23 _ _ _ (by kernel_rfl)) (by kernel_rfl) ⟨rfl, _, trivial, Mem.okT (T := [⟨g, .cells (av 3 (ls [.int .u16 h, .pointer (some ⟨g, 1, none⟩), .slice (some ⟨gb, 0, none⟩) x.size cap])) 59⟩, ⟨gb, Z⟩]) (L := []) M⟩


end Go.Proofs.Ytbechjlkmajcoaa
