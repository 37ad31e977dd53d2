/- The walks of the methods of strings.Builder; builders beside other memory. -/
import Derived.Test.YtenafinbaanicaaDoorA0
namespace Go.Proofs.YtenafinbaanicaaDoor
open Go.RowKit
set_option maxRecDepth 100000

open Go.Shelf
/-- A row that the blocks listed do not speak of has grown. -/
theorem Mem.grow {c : Ctx} {W W' : World} {L : List Blk} (M : Mem c L W) {r : List Nat} (hg : Grw W W' r) (hr : ∀ g ∈ r, g ∈ c.r ∧ g ∉ L.map Blk.g) : Mem c L W' where
  old := ⟨hg.os.trans M.old.os, hg.tape.trans M.old.tape, hg.output.trans M.old.output, Nat.le_trans M.old.size hg.size, fun k hk hk2 => (hg.block k (Nat.lt_of_lt_of_le hk M.old.size) fun h => hk2 (hr k h).1).trans (M.old.block k hk hk2)⟩
  at_ := fun b hb => by
    rw [hg.block _ (M.lt hb) fun h => (hr _ h).2 (List.mem_map_of_mem hb)]
    exact M.at_ b hb
  ge := M.ge
  nodup := M.nodup
  lay := M.lay
  ne := M.ne
theorem Mem.fgt {c : Ctx} {W : World} {L : List Blk} (M : Mem c L W) {r : List Nat} (h : ∀ x ∈ c.r, x ∈ r) (h1 : ∀ x ∈ r, 1 < x) : Mem ⟨c.w, r⟩ L W := ⟨⟨M.old.os, M.old.tape, M.old.output, M.old.size, fun k hk hr => M.old.block k hk fun hx => hr (h k hx)⟩, M.at_, fun b hb => (M.ge b hb).imp id (h _), M.nodup, M.lay, h1⟩
theorem bytes_of (s : ByteArray) : Lib.strCells s = Lib.byteCells s.data.toList := rfl

theorem pl_putk {ops : Array Oper} {rest : List Oper} {o : Oper} {a : Act} {w : World} {c : Ctx} {Q : Exit → Act → World → Prop} {k : Nat} {p v v' : Value} (M : Mem c [⟨k, .cells (av 2 (bF p v)) 109⟩] w) (hw : Region.wanted o (yielded ops a.tmps) = true) (hd : o.dst = none) (x y : Operand) (ho : o.op = .store 26 x y) (hx : a.eval x = .pointer (some ⟨k, 1, none⟩)) (hy : a.eval y = v') (h1 : v'.oneCell' = true) (hc : v'.cells = #[v'])
    (h : ∀ w', Mem c [⟨k, .cells (av 2 (bF p v')) 109⟩] w' → (∀ g, g < w.heap.size → g ≠ k → w'.heap[g]? = w.heap[g]?) → PL Tryd.prog ops Q rest a w') : PL Tryd.prog ops Q (o :: rest) a w := by
  have hk : k < w.heap.size := (Array.getElem?_eq_some_iff.1 (M.get 0 rfl)).1
  have M2 : Mem ⟨w, [k]⟩ [⟨k, .cells (av 2 (bF p v)) 109⟩] w := ⟨grown_refl _ _, by simpa using M.get 0 rfl, by simp, by simp, M.laid, by simpa using M.ne0 0 rfl⟩
  refine pl_put1 M2 hw hd 26 x y ho 0 k 1 hx 2 109 _ rfl v' _ hy inz26 (by decide) h1 hc (fun j hj => put_bF _ _ _ j hj) ?_
  intro w' M3
  refine h w' ?_ ?_
  · exact M.put 0 _ rfl _ ⟨M3.old.os, M3.old.tape, M3.old.output, M3.old.size, fun j hj hr => M3.old.block j hj hr⟩ (M3.get 0 rfl)
  · intro g hlt hg
    exact M3.old.block g hlt (by simpa using hg)

set_option maxRecDepth 100000 in
set_option maxHeartbeats 4000000 in
theorem c_wstr {k cap : Nat} {ao : Option Addr} {l : List UInt8} (s : ByteArray) (w : World) (hL : Laid w) (h : BA w k ao cap l) (hne : ∀ x ∈ k :: rowOf ao, 1 < x) (hb : l.length + s.size ≤ 1000000) :
    Calls Tryd.prog 83 #[.pointer (some ⟨k, 0, none⟩), .string s] w fun r w' => r = .returned (.tuple #[.int .i64 (s.size : Int), .nilIface]) ∧ ∃ ao' cap', BA w' k ao' cap' (l ++ s.data.toList) ∧ Grw w w' (k :: rowOf ao) ∧ (rowOf ao' = rowOf ao ∨ ∃ g, rowOf ao' = [g] ∧ w.heap.size ≤ g) := by
  go_enter Tryd.func83, Tryd.ntmps83
  refine sq ?_
  refine sR ?_
  refine rV 1 ?_
  refine pl_callq (want_no rfl) (some 7) rfl 85 #[.pointer (some ⟨k, 0, none⟩)] (fun _ => by kernel_rfl) ((c_chk h).mono ?_)
  rintro _ u1 ⟨rfl, hk1, hg1⟩
  refine ⟨_, rfl, ?_⟩
  have M : Mem ⟨w, k :: rowOf ao⟩ [⟨k, .cells (av 2 (bF (selfp k) (.slice ao l.length cap))) 109⟩] u1 := ⟨⟨hg1.os, hg1.tape, hg1.output, hg1.size, fun j hj hr => hg1.block j hj (fun e => hr (by rw [List.mem_singleton.1 e]; exact List.mem_cons_self ..))⟩, by simpa using hk1, by simp, by simp, hL, hne⟩
  have hown : u1.ownsRowF 0 5 1 (.slice ao l.length cap) l.length (Lib.byteCells l) := ownF_keep h.own fun g hg => hg1.block g (h.row_lt g hg) fun e => h.ne (by rw [← List.mem_singleton.1 e]; exact hg)
  refine nT ?_
  refine sR ?_
  refine rV 4 ?_
  refine ZE M 12 0 1 ?_
  refine rV 1 ?_
  obtain ⟨ao2, cap2, u2, hr2, hown2, hg2, hao⟩ := app_str hown s hb 26
  refine pl_to (want_no rfl) (some 14) rfl (.slice ao2 (l.length + s.size) cap2) u2 (show _ = _ from Eq.trans (b := (do pure (Next.value (← Builtin.append_ #[26, 9] 26 #[.slice ao l.length cap, .string s]))).run Tryd.prog u1) (by kernel_rfl) (by simp only [Sem.run_bind, hr2, Result.andThen_ok, Sem.run_pure])) ?_
  have hfr : rowOf ao2 = rowOf ao ∨ ∃ g, rowOf ao2 = [g] ∧ w.heap.size ≤ g := hao.imp id fun ⟨g, h1, h2⟩ => ⟨g, h1, Nat.le_trans M.old.size h2⟩
  have hrow2 : ∀ g ∈ rowOf ao2, g ≠ k := fun g hg e => by
    rcases hfr with h1 | ⟨x, h1, h2⟩
    · rw [h1] at hg; exact h.ne (e ▸ hg)
    · rw [h1] at hg; have h3 := h.lt; rw [List.mem_singleton.1 hg] at e; omega
  replace M := M.grow hg2 (fun g hg => ⟨List.mem_cons_of_mem _ hg, fun e => h.ne (by rw [← show g = k by simpa using e]; exact hg)⟩)
  refine rV 2 ?_
  refine pl_putk (v' := .slice ao2 (l.length + s.size) cap2) M (want_no rfl) rfl _ _ rfl (by kernel_rfl) (by kernel_rfl) rfl rfl ?_
  intro u3 M hst
  refine nT ?_
  refine sq ?_
  refine wp_ret ?_
  refine bodyPost_ret (v := .tuple #[.int .i64 (s.size : Int), Value.nilIface]) (results_tmp2 Tryd.results83 _ _ _ _ (by kernel_rfl) (by kernel_rfl)) (by kernel_rfl) ⟨rfl, ao2, cap2, ⟨.inr ?_, ?_⟩, M.old, hfr⟩
  · rw [show (l ++ s.data.toList).length = l.length + s.size from List.length_append]; exact M.get 0 rfl
  · rw [show (l ++ s.data.toList).length = l.length + s.size from List.length_append, Lib.byteCells_append]; exact ownF_keep hown2 fun g hg => hst g (hown2.lt g ((own_row _ _ _ g).2 hg)).2 (hrow2 g hg)

set_option maxRecDepth 100000 in
set_option maxHeartbeats 4000000 in
theorem c_wbyte {k cap : Nat} {ao : Option Addr} {l : List UInt8} (c : Int) (w : World) (hL : Laid w) (h : BA w k ao cap l) (hne : ∀ x ∈ k :: rowOf ao, 1 < x) (hb : l.length + 1 ≤ 1000000) (h0 : 0 ≤ c) (h1 : c < 256) :
    Calls Tryd.prog 71 #[.pointer (some ⟨k, 0, none⟩), .int .u8 c] w fun r w' => r = .returned (.nilIface) ∧ ∃ ao' cap', BA w' k ao' cap' (l ++ [UInt8.ofNat c.toNat]) ∧ Grw w w' (k :: rowOf ao) ∧ (rowOf ao' = rowOf ao ∨ ∃ g, rowOf ao' = [g] ∧ w.heap.size ≤ g) := by
  go_enter Tryd.func71, Tryd.ntmps71
  refine sq ?_
  refine sR ?_
  refine rV 1 ?_
  refine pl_callq (want_no rfl) (some 6) rfl 85 #[.pointer (some ⟨k, 0, none⟩)] (fun _ => by kernel_rfl) ((c_chk h).mono ?_)
  rintro _ u1 ⟨rfl, hk1, hg1⟩
  refine ⟨_, rfl, ?_⟩
  have M : Mem ⟨w, k :: rowOf ao⟩ [⟨k, .cells (av 2 (bF (selfp k) (.slice ao l.length cap))) 109⟩] u1 := ⟨⟨hg1.os, hg1.tape, hg1.output, hg1.size, fun j hj hr => hg1.block j hj (fun e => hr (by rw [List.mem_singleton.1 e]; exact List.mem_cons_self ..))⟩, by simpa using hk1, by simp, by simp, hL, hne⟩
  have hown : u1.ownsRowF 0 5 1 (.slice ao l.length cap) l.length (Lib.byteCells l) := ownF_keep h.own fun g hg => hg1.block g (h.row_lt g hg) fun e => h.ne (by rw [← List.mem_singleton.1 e]; exact hg)
  refine nT ?_
  refine sR ?_
  refine rV 4 ?_
  refine ZE M 11 0 1 ?_
  refine rV 1 ?_
  have hb2 : ∀ g ∈ rowOf ao, u1.heap[g]? = u1.heap[g]? := fun g hg => rfl
  refine pl_to (want_no rfl) (some 13) rfl (.slice (some ⟨u1.heap.size, 0, none⟩) 1 1) (u1.alloc (.cells (av 1 (fun _ => .int .u8 c)) 5)) (by kernel_rfl) ?_
  replace M := M.new u1.heap.size (.cells (av 1 (fun _ => .int .u8 c)) 5) (new_below u1 _) (heap_alloc_new u1 _) (Nat.le_refl _)
  replace hb2 : ∀ g ∈ rowOf ao, (u1.alloc (.cells (av 1 (fun _ => .int .u8 c)) 5)).heap[g]? = u1.heap[g]? := fun g hg => heap_alloc_old u1 _ (hown.lt g ((own_row _ _ _ g).2 hg)).2
  obtain ⟨ao2, cap2, u2, hr2, hown2, hg2, hao⟩ := app_byte (ownF_keep hown fun g hg => hb2 g hg) u1.heap.size c (cell_av (M.get 1 rfl) (by decide)) hb 26
  refine pl_to (want_no rfl) (some 14) rfl (.slice ao2 (l.length + 1) cap2) u2 (show _ = _ from Eq.trans (b := (do pure (Next.value (← Builtin.append_ #[26, 26] 26 #[.slice ao l.length cap, .slice (some ⟨u1.heap.size, 0, none⟩) 1 1]))).run Tryd.prog (u1.alloc (.cells (av 1 (fun _ => .int .u8 c)) 5))) (by kernel_rfl) (by simp only [Sem.run_bind, hr2, Result.andThen_ok, Sem.run_pure])) ?_
  have hfr : rowOf ao2 = rowOf ao ∨ ∃ g, rowOf ao2 = [g] ∧ w.heap.size ≤ g := hao.imp id fun ⟨g, h1, h2⟩ => ⟨g, h1, Nat.le_trans M.old.size h2⟩
  have hrow2 : ∀ g ∈ rowOf ao2, g ≠ k := fun g hg e => by
    rcases hfr with h1 | ⟨x, h1, h2⟩
    · rw [h1] at hg; exact h.ne (e ▸ hg)
    · rw [h1] at hg; have h3 := h.lt; rw [List.mem_singleton.1 hg] at e; omega
  replace M := M.drop (L' := [⟨k, .cells (av 2 (bF (selfp k) (.slice ao l.length cap))) 109⟩]) (.cons_cons _ (.cons _ .slnil))
  replace M := M.grow hg2 (fun g hg => ⟨List.mem_cons_of_mem _ hg, fun e => h.ne (by rw [← show g = k by simpa using e]; exact hg)⟩)
  refine rV 2 ?_
  refine pl_putk (v' := .slice ao2 (l.length + 1) cap2) M (want_no rfl) rfl _ _ rfl (by kernel_rfl) (by kernel_rfl) rfl rfl ?_
  intro u3 M hst
  refine nT ?_
  refine sq ?_
  refine wp_ret ?_
  refine bodyPost_ret (v := Value.nilIface) (results_tmp1 Tryd.results71 _ _ _ (by kernel_rfl)) (by kernel_rfl) ⟨rfl, ao2, cap2, ⟨.inr ?_, ?_⟩, M.old, hfr⟩
  · rw [show (l ++ [UInt8.ofNat c.toNat]).length = l.length + 1 from List.length_append]; exact M.get 0 rfl
  · rw [show (l ++ [UInt8.ofNat c.toNat]).length = l.length + 1 from List.length_append, cells_one l c h0 h1]; exact ownF_keep hown2 fun g hg => hst g (hown2.lt g ((own_row _ _ _ g).2 hg)).2 (hrow2 g hg)


end Go.Proofs.YtenafinbaanicaaDoor
