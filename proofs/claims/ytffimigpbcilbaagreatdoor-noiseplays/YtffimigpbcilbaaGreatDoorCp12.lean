/- Part 12 of the walks and facts. -/
import Derived.Test.YtffimigpbcilbaaGreatDoorCpDef
import Derived.Test.YtffimigpbcilbaaGreatDoorCp9
import Derived.Lib.FrozenHead2
set_option maxHeartbeats 16000000
set_option maxRecDepth 100000
namespace Go.Proofs.YtffimigpbcilbaaGreatDoor
open Go.RowKit
open Go.Shelf
def bF (p v : Value) : Nat → Value := fun i => if i = 0 then p else v
theorem put_bF (p v v' : Value) (j : Nat) (hj : j < 2) : (if j = 1 then v' else bF p v j) = bF p v' j := by
 unfold bF
 by_cases h : j = 1
 ·subst h
  rfl
 ·rw [if_neg h]
  have : j = 0 := by omega
  subst this
  rfl
theorem av_bF (p v : Value) : av 2 (bF p v) = #[p, v] := rfl
def selfp (k : Nat) : Value := pJ k
structure BA (u : World) (k : Nat) (ao : Option Addr) (cap : Nat) (l : List UInt8) : Prop where
 at_ : u.heap[k]? = some (.cells (av 2 (bF (.pointer none) (.slice ao l.length cap))) 177) ∨ u.heap[k]? = some (.cells (av 2 (bF (selfp k) (.slice ao l.length cap))) 177)
 own : u.ownsRowF 0 5 1 (.slice ao l.length cap) l.length (Lib.byteCells l)
def rowOf (ao : Option Addr) : List Nat := (ao.map (·.block)).toList
theorem own_row (ao : Option Addr) (n cap g : Nat) : (Value.slice ao n cap).ownBlock = some g ↔ g ∈ rowOf ao := by
 cases ao with
 | none => simp [Value.ownBlock, rowOf]
 | some a => simp [Value.ownBlock, rowOf, eq_comm]
theorem ownF_keep {u u' : World} {ao : Option Addr} {n cap : Nat} {xs : List Value} (h : u.ownsRowF 0 5 1 (.slice ao n cap) n xs) (hk : ∀ g ∈ rowOf ao, u'.heap[g]? = u.heap[g]?) : u'.ownsRowF 0 5 1 (.slice ao n cap) n xs := by
 refine ⟨h.1, ?_⟩
 rcases h.2 with h | ⟨g, c, cur, fz, hv, h2, h3, h4⟩
 ·exact .inl h
 ·refine .inr ⟨g, c, cur, fz, hv, h2, ?_, h4⟩
  rw [hk g ((own_row ao n cap g).1 (by rw [hv]; rfl))]
  exact h3
theorem BA.keep {u u' : World} {k cap : Nat} {ao : Option Addr} {l : List UInt8} (h : BA u k ao cap l) (h0 : u'.heap[k]? = u.heap[k]?) (hk : ∀ g ∈ rowOf ao, u'.heap[g]? = u.heap[g]?) : BA u' k ao cap l :=
 ⟨by rw [h0]; exact h.at_, ownF_keep h.own hk⟩
theorem BA.lt {u : World} {k cap : Nat} {ao : Option Addr} {l : List UInt8} (h : BA u k ao cap l) : k < u.heap.size := h.at_.elim (fun h => (Array.getElem?_eq_some_iff.1 h).1) (fun h => (Array.getElem?_eq_some_iff.1 h).1)
theorem BA.row_lt {u : World} {k cap : Nat} {ao : Option Addr} {l : List UInt8} (h : BA u k ao cap l) : ∀ g ∈ rowOf ao, g < u.heap.size := fun g hg => (h.own.lt g ((own_row ao _ cap g).2 hg)).2
theorem BA.ne {u : World} {k cap : Nat} {ao : Option Addr} {l : List UInt8} (h : BA u k ao cap l) : k ∉ rowOf ao := fun hk => by
 have h1 := (own_row ao l.length cap k).2 hk
 rcases h.at_ with h2 | h2 <;> exact Lib.ownBlock_neF h.own h2 (by decide) h1
theorem app_str {w : World} {ao : Option Addr} {n cap : Nat} {xs : List Value} (h : w.ownsRowF 0 5 1 (.slice ao n cap) n xs) (s : Yb) (hb : n + s.size ≤ 1000000) (ty : TypeId) :
  ∃ ao' cap' w', (Builtin.append_ #[61, 9] ty #[.slice ao n cap, .string s]).run Tryz.prog w = .ok (.slice ao' (n + s.size) cap') w' ∧ w'.ownsRowF 0 5 1 (.slice ao' (n + s.size) cap') (n + s.size) (xs ++ Lib.strCells s) ∧ Grw w w' (rowOf ao) ∧ (rowOf ao' = rowOf ao ∨ ∃ g, rowOf ao' = [g] ∧ w.heap.size ≤ g) := by
 obtain ⟨i0, hi, hz0, hz1, hz2⟩ := info_parts repExtra.infoByte
 have hm : n + s.size ≤ maxLen := by unfold maxLen; omega
 obtain ⟨v', w', hr, h2, h3, h4⟩ := Lib.run_append_own_stringF (P := Tryz.prog) w 0 61 9 ty 5 i0 Tryz.underlying61 Tryz.underlying9 hi hz0 hz1 hz2 _ n xs h s hm (by omega) (Nat.zero_le _)
 obtain ⟨ao', cap', rfl⟩ : ∃ ao' cap', v' = .slice ao' (n + s.size) cap' := by
  rcases h2.2 with ⟨hv, hn⟩ | ⟨g, c, cur, fz, hv, _⟩
  ·exact ⟨none, 0, by rw [hv, hn]⟩
  ·exact ⟨_, _, hv⟩
 refine ⟨ao', cap', w', hr, h2, ⟨h3.os, h3.tape, h3.output, h3.size, fun k hk hkr => h3.block k hk fun e => hkr ((own_row ao n cap k).1 e.symm)⟩, ?_⟩
 rcases h.2 with ⟨hv, hn⟩ | ⟨g, c, cur, fz, hv, _, hg, hfz, hnc, hcm, hcs, htake⟩
 ·obtain ⟨v2, w2, hr2, h5, _⟩ := Lib.run_append_own_stringF (P := Tryz.prog) w w.heap.size 61 9 ty 5 i0 Tryz.underlying61 Tryz.underlying9 hi hz0 hz1 hz2 _ n xs ⟨h.1, .inl ⟨hv, hn⟩⟩ s hm (by omega) (Nat.le_refl _)
  rw [hr] at hr2
  cases hr2
  cases hao : ao' with
  | none =>
   left
   cases hv
   rfl
  | some x =>
   right
   refine ⟨x.block, rfl, ?_⟩
   rw [hao] at h5
   exact (h5.lt x.block rfl).1
 ·cases hv
  have hxl : xs.length = n := by simpa using h.1
  have hcs' : cur.size = cap := by simpa using hcs
  by_cases hroom : n + s.size ≤ cap
  ·have hr2 := Lib.run_append_room_stringF (P := Tryz.prog) w 61 9 ty 5 i0 Tryz.underlying61 Tryz.underlying9 hi hz1 g n cap cur fz hg (by simpa using hfz) s hroom (by omega)
   rw [hr] at hr2
   cases hr2
   exact .inl rfl
  ·have hr2 := Lib.run_append_grow_string (P := Tryz.prog) w 61 9 ty 5 i0 (.int .u8 0) Tryz.underlying61 Tryz.underlying9 hi hz0 ⟨g, 0, none⟩ n cap xs (by rw [hz1]; simpa using hxl) (h.cells (g := g) rfl) s (by omega) (by omega) (by rw [hz2]; exact growslice_fits (by omega) (by omega))
   rw [hr] at hr2
   cases hr2
   exact .inr ⟨_, rfl, Nat.le_refl _⟩
theorem app_byte {w : World} {ao : Option Addr} {n cap : Nat} {xs : List Value} (h : w.ownsRowF 0 5 1 (.slice ao n cap) n xs) (gx : Nat) (c : Int) (hc : w.cell? ⟨gx, 0, none⟩ = some (.int .u8 c)) (hb : n + 1 ≤ 1000000) (ty : TypeId) :
  ∃ ao' cap' w', (Builtin.append_ #[61, 61] ty #[.slice ao n cap, .slice (some ⟨gx, 0, none⟩) 1 1]).run Tryz.prog w = .ok (.slice ao' (n + 1) cap') w' ∧ w'.ownsRowF 0 5 1 (.slice ao' (n + 1) cap') (n + 1) (xs ++ [.int .u8 c]) ∧ Grw w w' (rowOf ao) ∧ (rowOf ao' = rowOf ao ∨ ∃ g, rowOf ao' = [g] ∧ w.heap.size ≤ g) := by
 obtain ⟨i0, hi, hz0, hz1, hz2⟩ := info_parts repExtra.infoByte
 have hm : n + 1 ≤ maxLen := by unfold maxLen; omega
 have hnews : ∀ j u, [Value.int .u8 c][j]? = some u → w.cell? ((⟨gx, 0, none⟩ : Addr).add j) = some u := fun j u hj => by
  match j, hj with
  | 0, hj => simp at hj; subst hj; simpa [Addr.add] using hc
 have h1 : ∀ u ∈ [Value.int .u8 c], u.oneCell' = true := fun u hu => by simp at hu; subst hu; rfl
 obtain ⟨v', w', hr, h2, h3, h4⟩ := run_append_ownF (P := Tryz.prog) w 0 61 ty 5 i0 (.int .u8 0) 1 1 Tryz.underlying61 hi hz0 hz1 hz2 rfl (by decide) _ n xs h ⟨gx, 0, none⟩ 1 1 [.int .u8 c] rfl hnews h1 hm (by omega) (Nat.zero_le _)
 obtain ⟨ao', cap', rfl⟩ : ∃ ao' cap', v' = .slice ao' (n + 1) cap' := by
  rcases h2.2 with ⟨hv, hn⟩ | ⟨g, c, cur, fz, hv, _⟩
  ·omega
  ·exact ⟨_, _, hv⟩
 refine ⟨ao', cap', w', hr, h2, ⟨h3.os, h3.tape, h3.output, h3.size, fun k hk hkr => h3.block k hk fun e => hkr ((own_row ao n cap k).1 e.symm)⟩, ?_⟩
 rcases h.2 with ⟨hv, hn⟩ | ⟨g, c2, cur, fz, hv, _, hg, hfz, hnc, hcm, hcs, htake⟩
 ·obtain ⟨v2, w2, hr2, h5, _⟩ := run_append_ownF (P := Tryz.prog) w w.heap.size 61 ty 5 i0 (.int .u8 0) 1 1 Tryz.underlying61 hi hz0 hz1 hz2 rfl (by decide) _ n xs ⟨h.1, .inl ⟨hv, hn⟩⟩ ⟨gx, 0, none⟩ 1 1 [.int .u8 c] rfl hnews h1 hm (by omega) (Nat.le_refl _)
  rw [hr] at hr2
  cases hr2
  cases hao : ao' with
  | none =>
   left
   cases hv
   rfl
  | some x =>
   right
   refine ⟨x.block, rfl, ?_⟩
   rw [hao] at h5
   exact (h5.lt x.block rfl).1
 ·cases hv
  have hxl : xs.length = n := by simpa using h.1
  have hcs' : cur.size = cap := by simpa using hcs
  by_cases hroom : n + 1 ≤ cap
  ·have hr2 := run_append_roomF (P := Tryz.prog) w 61 ty 5 i0 Tryz.underlying61 hi g n cap cur fz hg (by rw [hz1]; simpa using hfz) ⟨gx, 0, none⟩ 1 1 [.int .u8 c] (by rw [hz1]; rfl) hnews h1 hroom (by rw [hz1]; simp; omega)
   rw [hr] at hr2
   cases hr2
   exact .inl rfl
  ·have hr2 := run_append_grow (P := Tryz.prog) w 61 ty 5 i0 (.int .u8 0) Tryz.underlying61 hi hz0 ⟨g, 0, none⟩ n cap xs (by rw [hz1]; simpa using hxl) (h.cells (g := g) rfl) ⟨gx, 0, none⟩ 1 1 [.int .u8 c] (by rw [hz1]; rfl) hnews (by omega) (by omega) (by rw [hz2]; exact growslice_fits (by omega) (by omega))
   rw [hr] at hr2
   cases hr2
   exact .inr ⟨_, rfl, Nat.le_refl _⟩
theorem c_chk {u : World} {k cap : Nat} {ao : Option Addr} {l : List UInt8} (h : BA u k ao cap l) : Calls Tryz.prog 160 #[pJ k] u fun r u' => r = .returned (.tuple #[]) ∧ u'.heap[k]? = some (.cells (av 2 (bF (selfp k) (.slice ao l.length cap))) 177) ∧ Grw u u' [k] := by
 rcases h.at_ with h1 | h1
 ·refine (Any.Builder_copyCheck_fresh (P := Tryz.prog) (ρ := repRen) { lays167 with } repExtra.toX72 k u (cell_av h1 (by decide)) (by simp [World.shape?, h1, av_size, repRen]) (free_av h1 0)).mono ?_
  rintro r u' ⟨rfl, rfl⟩
  refine ⟨rfl, ?_, grown_setCell _ _ _ _⟩
  have h2 := h1
  rw [av_bF] at h2
  rw [av_bF]
  simp [World.setCell, Array.getElem?_modify, h2, selfp]
 ·refine (Any.Builder_copyCheck_used (P := Tryz.prog) (ρ := repRen) { lays167 with } repExtra.toX72 k u (cell_av h1 (by decide))).mono ?_
  rintro r u' ⟨rfl, rfl⟩
  exact ⟨rfl, h1, grown_refl _ _⟩
open Go.RowKit
open Go.Shelf
theorem Mem.grow {c : Ctx} {W W' : World} {L : List Blk} (M : Mem c L W) {r : List Nat} (hg : Grw W W' r) (hr : ∀ g ∈ r, g ∈ c.r ∧ g ∉ L.map Blk.g) : Mem c L W' where
 old := ⟨hg.os.trans M.old.os, hg.tape.trans M.old.tape, hg.output.trans M.old.output, Nat.le_trans M.old.size hg.size, fun k hk hk2 => (hg.block k (Nat.lt_of_lt_of_le hk M.old.size) fun h => hk2 (hr k h).1).trans (M.old.block k hk hk2)⟩
 at_ := fun b hb => by
  rw [hg.block _ (M.lt hb) fun h => (hr _ h).2 (List.mem_map_of_mem hb)]
  exact M.at_ b hb
 ge := M.ge
 nodup := M.nodup
 lay := M.lay
 ne := M.ne
theorem pl_putk {ops : Array Oper} {rest : List Oper} {o : Oper} {a : Act} {w : World} {c : Ctx} {Q : Exit → Act → World → Prop} {k : Nat} {p v v' : Value} (M : Mem c [⟨k, .cells (av 2 (bF p v)) 177⟩] w) (hw : Region.wanted o (yielded ops a.tmps) = true) (hd : o.dst = none) (x y : Operand) (ho : o.op = .store 61 x y) (hx : a.eval x = pJ k 1) (hy : a.eval y = v') (h1 : v'.oneCell' = true) (hc : v'.cells = #[v'])
  (h : ∀ w', Mem c [⟨k, .cells (av 2 (bF p v')) 177⟩] w' → (∀ g, g < w.heap.size → g ≠ k → w'.heap[g]? = w.heap[g]?) → PL Tryz.prog ops Q rest a w') : PL Tryz.prog ops Q (o :: rest) a w := by
 have hk : k < w.heap.size := (Array.getElem?_eq_some_iff.1 (M.get 0 rfl)).1
 have M2 : Mem ⟨w, [k]⟩ [⟨k, .cells (av 2 (bF p v)) 177⟩] w := ⟨grown_refl _ _, by simpa using M.get 0 rfl, by simp, by simp, M.laid, by simpa using M.ne0 0 rfl⟩
 refine pl_put1 M2 hw hd 61 x y ho 0 k 1 hx 2 177 _ rfl v' _ hy inz61 (by decide) h1 hc (fun j hj => put_bF _ _ _ j hj) ?_
 intro w' M3
 refine h w' ?_ ?_
 ·exact M.put 0 _ rfl _ ⟨M3.old.os, M3.old.tape, M3.old.output, M3.old.size, fun j hj hr => M3.old.block j hj hr⟩ (M3.get 0 rfl)
 ·intro g hlt hg
  exact M3.old.block g hlt (by simpa using hg)
theorem c_wstr {k cap : Nat} {ao : Option Addr} {l : List UInt8} (s : Yb) (w : World) (hL : Laid w) (h : BA w k ao cap l) (hne : ∀ x ∈ k :: rowOf ao, 2 < x) (hb : l.length + s.size ≤ 1000000) : Calls Tryz.prog 142 #[pJ k, .string s] w fun r w' => r = .returned (.tuple #[.int .i64 (s.size : Int), .nilIface]) ∧ ∃ ao' cap', BA w' k ao' cap' (l ++ s.data.toList) ∧ Grw w w' (k :: rowOf ao) ∧ (rowOf ao' = rowOf ao ∨ ∃ g, rowOf ao' = [g] ∧ w.heap.size ≤ g) := by
 go_enter Tryz.func142, Tryz.ntmps142
 refine sq <| sR <| rV 1 ?_
 refine pl_callq (want_no rfl) (some 7) rfl 160 #[pJ k] (fun _ => by kernel_rfl) ((c_chk h).mono ?_)
 rintro _ u1 ⟨rfl, hk1, hg1⟩
 refine ⟨_, rfl, ?_⟩
 have M : Mem ⟨w, k :: rowOf ao⟩ [⟨k, .cells (av 2 (bF (selfp k) (.slice ao l.length cap))) 177⟩] u1 := ⟨⟨hg1.os, hg1.tape, hg1.output, hg1.size, fun j hj hr => hg1.block j hj (fun e => hr (by rw [List.mem_singleton.1 e]; exact List.mem_cons_self ..))⟩, by simpa using hk1, by simp, by simp, hL, hne⟩
 have hown : u1.ownsRowF 0 5 1 (.slice ao l.length cap) l.length (Lib.byteCells l) := ownF_keep h.own fun g hg => hg1.block g (h.row_lt g hg) fun e => h.ne (by rw [← List.mem_singleton.1 e]; exact hg)
 refine nT <| sR <| rV 4 <| ZE M 12 0 1 <| rV 1 ?_
 obtain ⟨ao2, cap2, u2, hr2, hown2, hg2, hao⟩ := app_str hown s hb 61
 refine pl_to (want_no rfl) (some 14) rfl (.slice ao2 (l.length + s.size) cap2) u2 (show _ = _ from Eq.trans (b := (do pure (Next.value (← Builtin.append_ #[61, 9] 61 #[.slice ao l.length cap, .string s]))).run Tryz.prog u1) (by kernel_rfl) (by simp only [Sem.run_bind, hr2, Result.andThen_ok, Sem.run_pure])) ?_
 have hfr : rowOf ao2 = rowOf ao ∨ ∃ g, rowOf ao2 = [g] ∧ w.heap.size ≤ g := hao.imp id fun ⟨g, h1, h2⟩ => ⟨g, h1, Nat.le_trans M.old.size h2⟩
 have hrow2 : ∀ g ∈ rowOf ao2, g ≠ k := fun g hg e => by
  rcases hfr with h1 | ⟨x, h1, h2⟩
  ·rw [h1] at hg; exact h.ne (e ▸ hg)
  ·rw [h1] at hg; have h3 := h.lt; rw [List.mem_singleton.1 hg] at e; omega
 replace M := M.grow hg2 (fun g hg => ⟨List.mem_cons_of_mem _ hg, fun e => h.ne (by rw [← show g = k by simpa using e]; exact hg)⟩)
 refine rV 2 <| pl_putk (v' := .slice ao2 (l.length + s.size) cap2) M (want_no rfl) rfl _ _ rfl (by kernel_rfl) (by kernel_rfl) rfl rfl ?_
 intro u3 M hst
 refine nT <| sq <| wp_ret ?_
 refine bodyPost_ret (v := .tuple #[.int .i64 (s.size : Int), Value.nilIface]) (results_tmp2 Tryz.results142 _ _ _ _ (by kernel_rfl) (by kernel_rfl)) (by kernel_rfl) ⟨rfl, ao2, cap2, ⟨.inr ?_, ?_⟩, M.old, hfr⟩
 ·rw [show (l ++ s.data.toList).length = l.length + s.size from List.length_append]; exact M.get 0 rfl
 ·rw [show (l ++ s.data.toList).length = l.length + s.size from List.length_append, Lib.byteCells_append]; exact ownF_keep hown2 fun g hg => hst g (hown2.lt g ((own_row _ _ _ g).2 hg)).2 (hrow2 g hg)
theorem c_wbyte {k cap : Nat} {ao : Option Addr} {l : List UInt8} (c : Int) (w : World) (hL : Laid w) (h : BA w k ao cap l) (hne : ∀ x ∈ k :: rowOf ao, 2 < x) (hb : l.length + 1 ≤ 1000000) (h0 : 0 ≤ c) (h1 : c < 256) : Calls Tryz.prog 130 #[pJ k, .int .u8 c] w fun r w' => r = .returned (.nilIface) ∧ ∃ ao' cap', BA w' k ao' cap' (l ++ [UInt8.ofNat c.toNat]) ∧ Grw w w' (k :: rowOf ao) ∧ (rowOf ao' = rowOf ao ∨ ∃ g, rowOf ao' = [g] ∧ w.heap.size ≤ g) := by
 go_enter Tryz.func130, Tryz.ntmps130
 refine sq <| sR <| rV 1 ?_
 refine pl_callq (want_no rfl) (some 6) rfl 160 #[pJ k] (fun _ => by kernel_rfl) ((c_chk h).mono ?_)
 rintro _ u1 ⟨rfl, hk1, hg1⟩
 refine ⟨_, rfl, ?_⟩
 have M : Mem ⟨w, k :: rowOf ao⟩ [⟨k, .cells (av 2 (bF (selfp k) (.slice ao l.length cap))) 177⟩] u1 := ⟨⟨hg1.os, hg1.tape, hg1.output, hg1.size, fun j hj hr => hg1.block j hj (fun e => hr (by rw [List.mem_singleton.1 e]; exact List.mem_cons_self ..))⟩, by simpa using hk1, by simp, by simp, hL, hne⟩
 have hown : u1.ownsRowF 0 5 1 (.slice ao l.length cap) l.length (Lib.byteCells l) := ownF_keep h.own fun g hg => hg1.block g (h.row_lt g hg) fun e => h.ne (by rw [← List.mem_singleton.1 e]; exact hg)
 refine nT <| sR <| rV 4 <| ZE M 11 0 1 <| rV 1 ?_
 have hb2 : ∀ g ∈ rowOf ao, u1.heap[g]? = u1.heap[g]? := fun g hg => rfl
 refine pl_to (want_no rfl) (some 13) rfl (.slice (some ⟨u1.heap.size, 0, none⟩) 1 1) (u1.alloc (.cells (av 1 (fun _ => .int .u8 c)) 5)) (by kernel_rfl) ?_
 replace M := M.new u1.heap.size (.cells (av 1 (fun _ => .int .u8 c)) 5) (new_below u1 _) (heap_alloc_new u1 _) (Nat.le_refl _)
 replace hb2 : ∀ g ∈ rowOf ao, (u1.alloc (.cells (av 1 (fun _ => .int .u8 c)) 5)).heap[g]? = u1.heap[g]? := fun g hg => heap_alloc_old u1 _ (hown.lt g ((own_row _ _ _ g).2 hg)).2
 obtain ⟨ao2, cap2, u2, hr2, hown2, hg2, hao⟩ := app_byte (ownF_keep hown fun g hg => hb2 g hg) u1.heap.size c (cell_av (M.get 1 rfl) (by decide)) hb 61
 refine pl_to (want_no rfl) (some 14) rfl (.slice ao2 (l.length + 1) cap2) u2 (show _ = _ from Eq.trans (b := (do pure (Next.value (← Builtin.append_ #[61, 61] 61 #[.slice ao l.length cap, .slice (some ⟨u1.heap.size, 0, none⟩) 1 1]))).run Tryz.prog (u1.alloc (.cells (av 1 (fun _ => .int .u8 c)) 5))) (by kernel_rfl) (by simp only [Sem.run_bind, hr2, Result.andThen_ok, Sem.run_pure])) ?_
 have hfr : rowOf ao2 = rowOf ao ∨ ∃ g, rowOf ao2 = [g] ∧ w.heap.size ≤ g := hao.imp id fun ⟨g, h1, h2⟩ => ⟨g, h1, Nat.le_trans M.old.size h2⟩
 have hrow2 : ∀ g ∈ rowOf ao2, g ≠ k := fun g hg e => by
  rcases hfr with h1 | ⟨x, h1, h2⟩
  ·rw [h1] at hg; exact h.ne (e ▸ hg)
  ·rw [h1] at hg; have h3 := h.lt; rw [List.mem_singleton.1 hg] at e; omega
 replace M := M.drop (L' := [⟨k, .cells (av 2 (bF (selfp k) (.slice ao l.length cap))) 177⟩]) (.cons_cons _ (.cons _ .slnil))
 replace M := M.grow hg2 (fun g hg => ⟨List.mem_cons_of_mem _ hg, fun e => h.ne (by rw [← show g = k by simpa using e]; exact hg)⟩)
 refine rV 2 <| pl_putk (v' := .slice ao2 (l.length + 1) cap2) M (want_no rfl) rfl _ _ rfl (by kernel_rfl) (by kernel_rfl) rfl rfl ?_
 intro u3 M hst
 refine nT <| sq <| wp_ret ?_
 refine bodyPost_ret (v := Value.nilIface) (results_tmp1 Tryz.results130 _ _ _ (by kernel_rfl)) (by kernel_rfl) ⟨rfl, ao2, cap2, ⟨.inr ?_, ?_⟩, M.old, hfr⟩
 ·rw [show (l ++ [UInt8.ofNat c.toNat]).length = l.length + 1 from List.length_append]; exact M.get 0 rfl
 ·rw [show (l ++ [UInt8.ofNat c.toNat]).length = l.length + 1 from List.length_append, cells_one l c h0 h1]; exact ownF_keep hown2 fun g hg => hst g (hown2.lt g ((own_row _ _ _ g).2 hg)).2 (hrow2 g hg)
open Go.RowKit
open Go.Shelf
theorem BA.cell1 {u : World} {k cap : Nat} {ao : Option Addr} {l : List UInt8} (h : BA u k ao cap l) : u.cell? ⟨k, 1, none⟩ = some (.slice ao l.length cap) := h.at_.elim (fun h => cell_av h (by decide)) (fun h => cell_av h (by decide))
theorem freeze_row {u : World} {g n : Nat} {cur : Array Value} {fz : Nat × Nat} (h : u.heap[g]? = some (.cells cur 5 fz)) (hf : fz.2 ≤ n) (hn : n ≠ 0) : ∃ fz', (u.freeze ⟨g, 0, none⟩ n).heap[g]? = some (.cells cur 5 fz') ∧ fz'.2 ≤ n ∧ Grw u (u.freeze ⟨g, 0, none⟩ n) [g] := by
 unfold World.freeze
 rw [if_neg hn]
 refine ⟨(if fz.1 == fz.2 then (0, 0 + n) else (min fz.1 0, max fz.2 (0 + n))), ?_, ?_, ⟨rfl, rfl, rfl, by simp, fun j _ hj => ?_⟩⟩
 ·simp only [Array.getElem?_modify, h]
  simp
 ·split
  ·simp
  ·show max fz.2 (0 + n) ≤ n
   omega
 ·simp only [Array.getElem?_modify]
  rw [if_neg (fun e => hj (by simpa using e.symm))]
theorem c_blen {k cap : Nat} {ao : Option Addr} {l : List UInt8} (w : World) (hL : Laid w) (h : BA w k ao cap l) : Cs 143 #[pJ k] w (.int .i64 (l.length : Int)) := by
 go_enter Tryz.func143, Tryz.ntmps143
 have M := Mem.start hL
 refine sq <| sR <| rV 3 <| pE M 6 k 1 (.slice ao l.length cap) (fun w M => M.oldc h.cell1 (by simp)) <| rV 2 <| nT <| wp_ret ?_
 exact b1 M
theorem row_cell {u : World} {g : Nat} {cur : Array Value} {fz : Nat × Nat} {l : List UInt8} (h : u.heap[g]? = some (.cells cur 5 fz)) (ht : cur.toList.take (l.length * 1) = Lib.byteCells l) {j : Nat} {x : UInt8} (hx : l[j]? = some x) : u.cell? ⟨g, j, none⟩ = some (.int .u8 x.toNat) := by
 have h2 : (Lib.byteCells l)[j]? = some (.int .u8 x.toNat) := by simp [Lib.byteCells, hx]
 rw [← ht, List.getElem?_take] at h2
 split at h2
 ·unfold World.cell?
  rw [h]
  simpa using h2
 ·cases h2
theorem c_bstr {k cap : Nat} {ao : Option Addr} {l : List UInt8} (w : World) (hL : Laid w) (h : BA w k ao cap l) (hne : ∀ x ∈ k :: rowOf ao, 2 < x) (h0 : l ≠ []) : Calls Tryz.prog 131 #[pJ k] w fun r w' => r = .returned (.string ⟨l.toArray⟩) ∧ ∃ ao' cap', BA w' k ao' cap' l ∧ Grw w w' (k :: rowOf ao) ∧ (rowOf ao' = rowOf ao ∨ ∃ g, rowOf ao' = [g] ∧ w.heap.size ≤ g) := by
 have hl0 : l.length ≠ 0 := by simpa using h0
 obtain ⟨g, cur, fz, rfl, hg, hfz, hnc, hcm, hcs, htake⟩ : ∃ g cur fz, ao = some ⟨g, 0, none⟩ ∧ w.heap[g]? = some (.cells cur 5 fz) ∧ fz.2 ≤ l.length ∧ l.length ≤ cap ∧ cap ≤ maxLen ∧ cur.size = cap * 1 ∧ cur.toList.take (l.length * 1) = Lib.byteCells l := by
  rcases h.own.2 with ⟨_, hz⟩ | ⟨g, c, cur, fz, hv, _, h2, h3, h4⟩
  ·exact absurd hz hl0
  ·cases hv
   exact ⟨g, cur, fz, rfl, h2, by simpa using h3, h4⟩
 have hgk : g ≠ k := fun e => h.ne (by simp [rowOf, e])
 have M : Mem ⟨w, [g]⟩ [⟨g, .cells cur 5 fz⟩] w := ⟨grown_refl _ _, by simpa using hg, by simp, by simp, hL, fun x e => hne x (List.mem_cons_of_mem _ (by simpa [rowOf] using e))⟩
 go_enter Tryz.func131, Tryz.ntmps131
 refine sq <| wp_seq <| rgh M [] 11 fun u1 M => ?_
 have qM := M.drop (.cons _ (.slnil))
 refine qV qM 0 3 (pJ k) <| qV qM 1 4 (pJ k) <| qV qM 2 5 (pJ k 1) <| qC qM 3 6 k 1 (.slice (some ⟨g, 0, none⟩) l.length cap) (fun w M => M.oldc h.cell1 (by simpa using Ne.symm hgk)) <| qH qM 4 7 (pJ g) (fun w _ => (fun w => Eq.trans (b := (do pure (Next.value (← Builtin.unsafeSliceData_ #[61] 220 #[.slice (some ⟨g, 0, none⟩) l.length cap]))).run Tryz.prog w) (by kernel_rfl) (by simp only [Sem.run_bind, Lib.run_unsafeSliceData_row w #[61] 220 ⟨g, 0, none⟩ l.length cap (by omega), Result.andThen_ok, Sem.run_pure])) w) <| qV qM 5 8 (pJ k) <| qV qM 6 9 (pJ k) <| qV qM 7 10 (pJ k 1) <| qC qM 8 11 k 1 (.slice (some ⟨g, 0, none⟩) l.length cap) (fun w M => M.oldc h.cell1 (by simpa using Ne.symm hgk)) <| qV qM 9 12 (.int .i64 (l.length : Int)) <| qO 10 ?_
 have hg1 : u1.heap[g]? = some (.cells cur 5 fz) := M.get 0 rfl
 have hUS := Lib.run_unsafeString_row (P := Tryz.prog) u1 220 3 9 5 Tryz.underlying220 repExtra.cellsByte g cur.size (by simp [World.shape?, hg1]) l h0 (by omega) (by unfold maxLen at hcm; omega) (fun j x hx => by rw [add_at, Nat.zero_add]; exact row_cell hg1 htake hx)
 obtain ⟨fz1, hf1, hf2, hf3⟩ := freeze_row hg1 hfz (by simpa using h0)
 refine pl_to (want_no rfl) (some 13) rfl (.string ⟨l.toArray⟩) (u1.freeze ⟨g, 0, none⟩ l.length) (show _ = _ from Eq.trans (b := (do pure (Next.value (← Builtin.unsafeString_ #[220, 3] 9 #[pJ g, .int .i64 l.length]))).run Tryz.prog u1) (by kernel_rfl) (by simp only [Sem.run_bind, hUS, Result.andThen_ok, Sem.run_pure])) ?_
 replace M := M.put 0 _ rfl _ hf3 hf1
 generalize u1.freeze ⟨g, 0, none⟩ l.length = u2 at M ⊢
 refine nT ?_
 refine ⟨(M.drop (.cons _ (.slnil))), ?_⟩
 refine qZ ?_
 refine rV 1 <| nT <| au_then <| wp_ret ?_
 refine bodyPost_ret (v := .string ⟨l.toArray⟩) (results_tmp1 Tryz.results131 _ _ _ (by kernel_rfl)) (by kernel_rfl) ⟨rfl, some ⟨g, 0, none⟩, cap, ⟨?_, ⟨by simp [Lib.byteCells_length], .inr ⟨g, cap, cur, fz1, rfl, Nat.zero_le _, M.get 0 rfl, by omega, hnc, hcm, hcs, htake⟩⟩⟩, ?_, .inl rfl⟩
 ·have e := M.old.block k h.lt (by simpa using Ne.symm hgk)
  rw [show u2.heap[k]? = w.heap[k]? from e]; exact h.at_
 ·exact ⟨M.old.os, M.old.tape, M.old.output, M.old.size, fun j hj hr => M.old.block j hj fun e => hr (List.mem_cons_of_mem _ (by simpa [rowOf] using e))⟩
theorem flatMap_eq {α β : Type} {f g : α → List β} : ∀ (l : List α), (∀ a ∈ l, f a = g a) → l.flatMap f = l.flatMap g
 | [], _ => rfl
 | a :: l, h => by rw [List.flatMap_cons, List.flatMap_cons, h a (List.mem_cons_self ..), flatMap_eq l fun b hb => h b (List.mem_cons_of_mem _ hb)]
structure Bd where
 k : Nat
 l : List UInt8
def owns (V : Nat → Option Addr × Nat) (Bs : List Bd) : List Nat := Bs.flatMap fun b => b.k :: rowOf (V b.k).1
structure SN (w : World) (Bs : List Bd) (L : List Blk) (u : World) : Prop where
 bel : Below w.heap.size w u
 at_ : ∀ b ∈ L, u.heap[b.g]? = some b.Z
 ex : ∃ V : Nat → Option Addr × Nat, (∀ b ∈ Bs, BA u b.k (V b.k).1 (V b.k).2 b.l) ∧ (owns V Bs ++ L.map Blk.g).Nodup ∧ ∀ x ∈ owns V Bs ++ L.map Blk.g, w.heap.size ≤ x
theorem owns_lt {u : World} {V : Nat → Option Addr × Nat} {Bs : List Bd} (h : ∀ b ∈ Bs, BA u b.k (V b.k).1 (V b.k).2 b.l) : ∀ x ∈ owns V Bs, x < u.heap.size := fun x hx => by
 obtain ⟨b, hb, hx⟩ := List.mem_flatMap.1 hx
 rcases List.mem_cons.1 hx with rfl | hx
 ·exact (h b hb).lt
 ·exact (h b hb).row_lt x hx
theorem SN.mem {w u : World} {Bs : List Bd} {L : List Blk} (h : SN w Bs L u) (hL : Laid w) : Mem ⟨u, L.map Blk.g⟩ L u := by
 obtain ⟨V, h1, h2, h3⟩ := h.ex
 exact ⟨grown_refl _ _, h.at_, fun b hb => .inr (List.mem_map_of_mem hb), (List.nodup_append.1 h2).2.1, below_laid h.bel hL, fun x e => by
  have := h3 x (List.mem_append.2 (.inr e))
  have := hL.lt
  omega⟩
theorem SN.next {w u u' : World} {Bs : List Bd} {L L' : List Blk} (h : SN w Bs L u) (M : Mem ⟨u, L.map Blk.g⟩ L' u') : SN w Bs L' u' := by
 obtain ⟨V, h1, h2, h3⟩ := h.ex
 obtain ⟨n1, n2, n3⟩ := List.nodup_append.1 h2
 have hsz := h.bel.size
 have ho : Grw u u' (L.map Blk.g) := M.old
 have hk : ∀ x ∈ owns V Bs, u'.heap[x]? = u.heap[x]? := fun x hx => ho.block x (owns_lt h1 x hx) fun hm => n3 x hx x hm rfl
 refine ⟨h.bel.trans ⟨ho.os, ho.tape, ho.output, ho.size, fun j hj => ho.block j (by omega) fun hm => ?_⟩, M.at_, V, fun b hb => ?_, ?_, fun x hx => ?_⟩
 ·have := h3 j (List.mem_append.2 (.inr hm))
  omega
 ·exact (h1 b hb).keep (hk _ (List.mem_flatMap.2 ⟨b, hb, List.mem_cons_self ..⟩)) fun g hg => hk _ (List.mem_flatMap.2 ⟨b, hb, List.mem_cons_of_mem _ hg⟩)
 ·refine List.nodup_append.2 ⟨n1, M.nodup, fun x hx y hy e => ?_⟩
  subst e
  obtain ⟨b, hb, rfl⟩ := List.mem_map.1 hy
  rcases M.ge b hb with h4 | h4
  ·have h4 : u.heap.size ≤ b.g := h4
   have := owns_lt h1 _ hx
   omega
  ·exact n3 _ hx _ h4 rfl
 ·rcases List.mem_append.1 hx with hx | hx
  ·exact h3 x (List.mem_append.2 (.inl hx))
  ·obtain ⟨b, hb, rfl⟩ := List.mem_map.1 hx
   rcases M.ge b hb with h4 | h4
   ·have h4 : u.heap.size ≤ b.g := h4
    omega
   ·exact h3 _ (List.mem_append.2 (.inr h4))
theorem SN.keep {w u u' : World} {Bs : List Bd} {L : List Blk} (h : SN w Bs L u) (hL : Laid w) (hb : Below u.heap.size u u') : SN w Bs L u' := h.next ((h.mem hL).keep hb)
theorem SN.perm {w u : World} {Bs Bs' : List Bd} {L : List Blk} (h : SN w Bs L u) (hp : Bs.Perm Bs') : SN w Bs' L u := by
 obtain ⟨V, h1, h2, h3⟩ := h.ex
 have hq : (owns V Bs ++ L.map Blk.g).Perm (owns V Bs' ++ L.map Blk.g) := (hp.flatMap_right _).append_right _
 exact ⟨h.bel, h.at_, V, fun b hb => h1 b (hp.mem_iff.2 hb), hq.nodup_iff.1 h2, fun x hx => h3 x (hq.mem_iff.2 hx)⟩
theorem SN.cell {w u : World} {Bs : List Bd} {L : List Blk} (h : SN w Bs L u) {g i : Nat} {v : Value} (hg : g < w.heap.size) (hc : w.cell? ⟨g, i, none⟩ = some v) : u.cell? ⟨g, i, none⟩ = some v := by
 unfold World.cell? at hc ⊢
 simp only at hc ⊢
 rw [h.bel.block g hg]
 exact hc
theorem SN.step {w u u' : World} {k : Nat} {l l' : List UInt8} {Bs : List Bd} {L : List Blk} {V : Nat → Option Addr × Nat} (hbel : Below w.heap.size w u) (hat : ∀ b ∈ L, u.heap[b.g]? = some b.Z) (h1 : ∀ b ∈ (⟨k, l⟩ :: Bs : List Bd), BA u b.k (V b.k).1 (V b.k).2 b.l) (h2 : (owns V (⟨k, l⟩ :: Bs) ++ L.map Blk.g).Nodup) (h3 : ∀ x ∈ owns V (⟨k, l⟩ :: Bs) ++ L.map Blk.g, w.heap.size ≤ x)
  {ao : Option Addr} {cap : Nat} (hb : BA u' k ao cap l') (hg : Grw u u' (k :: rowOf (V k).1)) (hao : rowOf ao = rowOf (V k).1 ∨ ∃ g, rowOf ao = [g] ∧ u.heap.size ≤ g) : SN w (⟨k, l'⟩ :: Bs) L u' := by
 have hsz := hbel.size
 have hown : owns V (⟨k, l⟩ :: Bs) = k :: (rowOf (V k).1 ++ owns V Bs) := rfl
 have hmine : ∀ x ∈ k :: rowOf (V k).1, w.heap.size ≤ x := fun x hx => h3 x (List.mem_append.2 (.inl (by
  rw [hown]
  rcases List.mem_cons.1 hx with rfl | hx
  ·exact List.mem_cons_self ..
  ·exact List.mem_cons_of_mem _ (List.mem_append.2 (.inl hx)))))
 rw [hown, List.cons_append, List.append_assoc] at h2
 have h2' : ((k :: rowOf (V k).1) ++ (owns V Bs ++ L.map Blk.g)).Nodup := h2
 obtain ⟨n1, n2, n3⟩ := List.nodup_append.1 h2'
 have hlt : ∀ x ∈ owns V Bs ++ L.map Blk.g, x < u.heap.size := fun x hx => by
  rcases List.mem_append.1 hx with hx | hx
  ·exact owns_lt (fun b hb => h1 b (List.mem_cons_of_mem _ hb)) x hx
  ·obtain ⟨b, hb, rfl⟩ := List.mem_map.1 hx
   exact (Array.getElem?_eq_some_iff.1 (hat b hb)).1
 have hkeep : ∀ x ∈ owns V Bs ++ L.map Blk.g, u'.heap[x]? = u.heap[x]? := fun x hx => hg.block x (hlt x hx) fun hm => n3 x hm x hx rfl
 have hV : ∀ b ∈ Bs, (if b.k = k then (ao, cap) else V b.k) = V b.k := fun b hb => if_neg fun e => n3 k (List.mem_cons_self ..) b.k (List.mem_append.2 (.inl (List.mem_flatMap.2 ⟨b, hb, List.mem_cons_self ..⟩))) e.symm
 have hownV : owns (fun j => if j = k then (ao, cap) else V j) Bs = owns V Bs := by
  unfold owns
  refine flatMap_eq Bs fun b hb => ?_
  show b.k :: rowOf (if b.k = k then (ao, cap) else V b.k).1 = _
  rw [hV b hb]
 have hown2 : owns (fun j => if j = k then (ao, cap) else V j) (⟨k, l'⟩ :: Bs) = k :: (rowOf ao ++ owns V Bs) := by
  rw [← hownV]
  show k :: rowOf (if k = k then (ao, cap) else V k).1 ++ _ = _
  rw [if_pos rfl]
  rfl
 have hnew : ∀ x ∈ rowOf ao, (x ∈ rowOf (V k).1 ∨ u.heap.size ≤ x) := fun x hx => by
  rcases hao with h | ⟨g, h, h4⟩
  ·rw [h] at hx
   exact .inl hx
  ·rw [h] at hx
   rw [List.mem_singleton.1 hx]
   exact .inr h4
 refine ⟨hbel.trans ⟨hg.os, hg.tape, hg.output, hg.size, fun j hj => hg.block j (by omega) fun hm => ?_⟩, fun b hb => ?_, fun j => if j = k then (ao, cap) else V j, fun b hm => ?_, ?_, ?_⟩
 ·have := hmine j hm
  omega
 ·rw [hkeep _ (List.mem_append.2 (.inr (List.mem_map_of_mem hb)))]
  exact hat b hb
 ·rcases List.mem_cons.1 hm with rfl | hb
  ·show BA u' k (if k = k then (ao, cap) else V k).1 (if k = k then (ao, cap) else V k).2 l'
   rw [if_pos rfl]
   exact hb
  ·show BA u' b.k (if b.k = k then (ao, cap) else V b.k).1 (if b.k = k then (ao, cap) else V b.k).2 b.l
   rw [hV b hb]
   exact (h1 b (List.mem_cons_of_mem _ hb)).keep (hkeep _ (List.mem_append.2 (.inl (List.mem_flatMap.2 ⟨b, hb, List.mem_cons_self ..⟩)))) fun g hg => hkeep _ (List.mem_append.2 (.inl (List.mem_flatMap.2 ⟨b, hb, List.mem_cons_of_mem _ hg⟩)))
 ·rw [hown2, List.cons_append, List.append_assoc]
  show ((k :: rowOf ao) ++ (owns V Bs ++ L.map Blk.g)).Nodup
  have hk : k < u.heap.size := (h1 _ (List.mem_cons_self ..)).lt
  refine List.nodup_append.2 ⟨List.nodup_cons.2 ⟨hb.ne, ?_⟩, n2, fun x hx y hy e => ?_⟩
  ·cases ao with
   | none => simp [rowOf]
   | some a => simp [rowOf]
  ·subst e
   rcases List.mem_cons.1 hx with rfl | hx
   ·exact n3 _ (List.mem_cons_self ..) _ hy rfl
   ·rcases hnew x hx with h | h
    ·exact n3 _ (List.mem_cons_of_mem _ h) _ hy rfl
    ·have := hlt x hy
     omega
 ·intro x hx
  rw [hown2, List.cons_append, List.append_assoc] at hx
  rcases List.mem_cons.1 hx with rfl | hx
  ·exact hmine _ (List.mem_cons_self ..)
  ·rcases List.mem_append.1 hx with hx | hx
   ·rcases hnew x hx with h | h
    ·exact hmine x (List.mem_cons_of_mem _ h)
    ·omega
   ·refine h3 x ?_
    rw [hown, List.cons_append, List.append_assoc]
    exact List.mem_cons_of_mem _ (List.mem_append.2 (.inr hx))
theorem SN.not1 {w : World} {k : Nat} {l : List UInt8} {Bs : List Bd} {L : List Blk} {V : Nat → Option Addr × Nat} (hL : Laid w) (h3 : ∀ x ∈ owns V (⟨k, l⟩ :: Bs) ++ L.map Blk.g, w.heap.size ≤ x) : ∀ x ∈ k :: rowOf (V k).1, 2 < x := fun x e => by
 have := h3 x (List.mem_append.2 (.inl (List.mem_append.2 (.inl e))))
 have := hL.lt
 omega
theorem SN.wstr {w u : World} {k : Nat} {l : List UInt8} {Bs : List Bd} {L : List Blk} (h : SN w (⟨k, l⟩ :: Bs) L u) (hL : Laid w) (s : Yb) (hz : l.length + s.size ≤ 1000000) : Calls Tryz.prog 142 #[pJ k, .string s] u fun r u' => r = .returned (.tuple #[.int .i64 (s.size : Int), .nilIface]) ∧ SN w (⟨k, l ++ s.data.toList⟩ :: Bs) L u' := by
 obtain ⟨V, h1, h2, h3⟩ := h.ex
 refine (c_wstr s u (below_laid h.bel hL) (h1 _ (List.mem_cons_self ..)) (SN.not1 hL h3) hz).mono ?_
 rintro r u' ⟨rfl, ao, cap, h4, h5, h6⟩
 exact ⟨rfl, SN.step h.bel h.at_ h1 h2 h3 h4 h5 h6⟩
theorem SN.wbyte {w u : World} {k : Nat} {l : List UInt8} {Bs : List Bd} {L : List Blk} (h : SN w (⟨k, l⟩ :: Bs) L u) (hL : Laid w) (c : Int) (h0 : 0 ≤ c) (hc : c < 256) (hz : l.length + 1 ≤ 1000000) : Calls Tryz.prog 130 #[pJ k, .int .u8 c] u fun r u' => r = .returned .nilIface ∧ SN w (⟨k, l ++ [UInt8.ofNat c.toNat]⟩ :: Bs) L u' := by
 obtain ⟨V, h1, h2, h3⟩ := h.ex
 refine (c_wbyte c u (below_laid h.bel hL) (h1 _ (List.mem_cons_self ..)) (SN.not1 hL h3) hz h0 hc).mono ?_
 rintro r u' ⟨rfl, ao, cap, h4, h5, h6⟩
 exact ⟨rfl, SN.step h.bel h.at_ h1 h2 h3 h4 h5 h6⟩
theorem SN.str {w u : World} {k : Nat} {l : List UInt8} {Bs : List Bd} {L : List Blk} (h : SN w (⟨k, l⟩ :: Bs) L u) (hL : Laid w) (h0 : l ≠ []) : Calls Tryz.prog 131 #[pJ k] u fun r u' => r = .returned (.string ⟨l.toArray⟩) ∧ SN w (⟨k, l⟩ :: Bs) L u' := by
 obtain ⟨V, h1, h2, h3⟩ := h.ex
 refine (c_bstr u (below_laid h.bel hL) (h1 _ (List.mem_cons_self ..)) (SN.not1 hL h3) h0).mono ?_
 rintro r u' ⟨rfl, ao, cap, h4, h5, h6⟩
 exact ⟨rfl, SN.step h.bel h.at_ h1 h2 h3 h4 h5 h6⟩
theorem SN.len {w u : World} {k : Nat} {l : List UInt8} {Bs : List Bd} {L : List Blk} (h : SN w (⟨k, l⟩ :: Bs) L u) (hL : Laid w) : Calls Tryz.prog 143 #[pJ k] u fun r u' => r = .returned (.int .i64 (l.length : Int)) ∧ SN w (⟨k, l⟩ :: Bs) L u' := by
 obtain ⟨V, h1, h2, h3⟩ := h.ex
 refine (c_blen u (below_laid h.bel hL) (h1 _ (List.mem_cons_self ..))).mono ?_
 rintro r u' ⟨rfl, h4⟩
 exact ⟨rfl, h.keep hL h4⟩
theorem SN.start2 {w u : World} {k1 k2 : Nat} {L : List Blk} (M : Mem ⟨w, []⟩ (⟨k1, .cells (av 2 bF0) 177⟩ :: ⟨k2, .cells (av 2 bF0) 177⟩ :: L) u) : SN w [⟨k1, []⟩, ⟨k2, []⟩] L u := by
 have hba : ∀ k, u.heap[k]? = some (.cells (av 2 bF0) 177) → BA u k none 0 [] := fun k h => ⟨.inl h, by simp [Lib.byteCells], .inl ⟨rfl, rfl⟩⟩
 refine ⟨below_grown M.old, fun b hb => M.at_ b (List.mem_cons_of_mem _ (List.mem_cons_of_mem _ hb)), fun _ => (none, 0), fun b hb => ?_, M.nodup, fun x hx => ?_⟩
 ·rcases List.mem_cons.1 hb with rfl | hb
  ·exact hba _ (M.get 0 rfl)
  ·rw [List.mem_singleton.1 hb]
   exact hba _ (M.get 1 rfl)
 ·have hx2 : x ∈ ((⟨k1, .cells (av 2 bF0) 177⟩ :: ⟨k2, .cells (av 2 bF0) 177⟩ :: L : List Blk).map Blk.g) := hx
  obtain ⟨b, hb, rfl⟩ := List.mem_map.1 hx2
  exact (M.ge b hb).elim id fun h => by cases h
open Go.RowKit
def wb (n : Int) (i : Nat) : Int := cv .u8 (sr n (8 * i))
def wbs (n : Int) : Nat → (Nat → Int)
 | 0 => fun _ => 0
 | j + 1 => upd (wbs n j) j (wb n j)
theorem wbs_at (n : Int) : ∀ m, ∀ i, i < m → wbs n m i = wb n i
 | 0, i, h => absurd h (by omega)
 | m + 1, i, h => by
  unfold wbs upd
  by_cases e : i = m
  ·rw [if_pos e, e]
  ·rw [if_neg e, wbs_at n m i (by omega)]
theorem wbs_map (n : Int) : (List.range 8).map (wbs n 8) = (List.range 8).map (wb n) := List.map_congr_left fun i hi => wbs_at n 8 i (List.mem_range.1 hi)
theorem wb_nn (n : Int) : ∀ y ∈ (List.range 8).map (wb n), 0 ≤ y ∧ y < 256 := fun y hy => by
 obtain ⟨i, _, rfl⟩ := List.mem_map.1 hy
 exact cv8_nn _
def wS (n : Int) : ByteArray := bs ((List.range 8).map (wb n))
theorem wS_size (n : Int) : (wS n).size = 8 := by
 unfold wS
 rw [bs_size]
 simp
def zB (n : Nat) : ByteArray := bs ((List.range n).map fun _ => 0)
theorem zB_size (n : Nat) : (zB n).size = n := by
 unfold zB
 rw [bs_size]
 simp
theorem z_nn (n : Nat) : ∀ x ∈ (List.range n).map fun _ => (0 : Int), 0 ≤ x ∧ x < 256 := fun x hx => by
 obtain ⟨i, _, rfl⟩ := List.mem_map.1 hx
 decide
theorem z_rep (n : Nat) : List.replicate n (0 : Int) = (List.range n).map fun _ => 0 := by
 apply List.ext_getElem?
 intro i
 by_cases h : i < n
 ·simp [h]
 ·rw [List.getElem?_eq_none (by simp; omega), List.getElem?_eq_none (by simp; omega)]
theorem rem16 (n : Nat) : Int.tmod (n : Int) 16 = ((n % 16 : Nat) : Int) := by
 rw [Int.tmod_eq_emod_of_nonneg (by omega)]
 omega
def nS (n : Int) : ByteArray := zB 4 ++ wS n
theorem nS_size (n : Int) : (nS n).size = 12 := by
 unfold nS
 rw [ByteArray.size_append, zB_size, wS_size]
theorem c_word (n : Int) (w : World) (hL : Laid w)  : Cs 74 #[.int .u64 n] w (.string (wS n)) := by
 go_enter Tryz.func74, Tryz.ntmps74
 have M := Mem.start hL
 refine sq <| sR <| pN M 3 (.cells (av 8 (w8 (fun _ => 0))) 153) fun g1 u1 M => nT <| wp_seq <| sq <| wp_block ?_
 refine au_loop (fun j a w' => ∃ v1 : NV, a = (fm ([.int .u64 n, v1 1, .string ⟨#[]⟩, pJ g1, v1 4, .int .i64 (j : Int)] ++ vr v1 6 12)) ∧ Mem ⟨w, []⟩ [⟨g1, .cells (av 8 (w8 (wbs n j))) 153⟩] w') 8 (exS M) ?_ ?_
 ·intro j a u0 hj hI
  obtain ⟨v1, rfl, M⟩ := hI
  refine sR <| ZT 6 ((j : Int) < 8) <| nT <| wp_seq <| cT <| wp_skip <| au_then <| wp_seq <| wp_block <| sq <| rg_lit <| rV 3 <| ZI 11 (8 * (j : Int)) ((8 * j : Nat) : Int) <| pH 12 (.int .u64 (sr n (8 * j))) (Pol.run_shrU 86 3 _ _ rfl _ .i64 (8 * j) (by kernel_rfl) (by kernel_rfl) (by omega)) <| rV 1 <| ZX 14 .i64 g1 (j) 8 ?_
  refine ZP8 M 0 j (cv .u8 (sr n (8 * j))) fun u2 M => pl_nil <| au_block <| au_then <| rg_lit <| ZI 15 ((j : Int) + 1) ((j + 1 : Nat) : Int) <| rV 1 <| nT ?_
  exact exS M
 ·intro a u0 hI
  obtain ⟨v1, rfl, M⟩ := hI
  refine sR <| ZF 6 (8 < 8) <| nT <| wp_seq <| cF <| wp_exit <| au_then_exit <| au_then_exit <| au_block_exit <| au_then <| sR <| rV 1 <| pl_back M (want_no rfl) (some 17) rfl _ rfl 0 g1 8 8 (by kernel_rfl) _ rfl ((List.range 8).map (wbs n 8)) 8 (sb_av 8 _ _) (by simp) (by rw [wbs_map]; exact wb_nn _) ?_
  rw [wbs_map]
  refine rV 1 <| nT <| wp_ret ?_
  exact b1 M
theorem d_eight (n : Int) (w : World) (hL : Laid w)  : Cs 80 #[.int .u64 n] w (.string (wS n)) := by
 go_enter Tryz.func80, Tryz.ntmps80
 have M := Mem.start hL
 refine sq <| sR <| ZM M 5 (fun g1 => .slice (some ⟨g1, 0, none⟩) 8 8) (.cells (av 8 (w8 (fun _ => 0))) 5) fun g1 u1 M => rV 1 <| nT <| wp_seq <| sq <| wp_block ?_
 refine au_loop (fun j a w' => ∃ v1 : NV, a = (fm ([.int .u64 n, v1 1, .string ⟨#[]⟩, .slice (some ⟨g1, 0, none⟩) 8 8, .int .i64 (j : Int)] ++ vr v1 5 16)) ∧ Mem ⟨w, []⟩ [⟨g1, .cells (av 8 (w8 (wbs n j))) 5⟩] w') 8 (exS M) ?_ ?_
 ·intro j a u0 hj hI
  obtain ⟨v1, rfl, M⟩ := hI
  refine wp_seq <| sR <| rV 1 <| ZT 7 ((j : Int) < 8) <| nT <| cT <| wp_skip <| au_then <| wp_seq <| wp_block <| rg_lit <| rV 4 <| ZI 14 (8 * (j : Int)) ((8 * j : Nat) : Int) <| ZQ 15 .u64 (cv .u64 ((8 * j : Nat) : Int)) (cvu64 _ (by omega)) <| pH 16 (.int .u64 (sr n (8 * j))) (Pol.run_shrU 86 92 _ _ rfl _ .u64 (8 * j) (by kernel_rfl) (by kernel_rfl) (by omega)) <| rV 1 ?_
  refine pH 18 (pJ g1 j) (run_ix0 61 5 Tryz.underlying61 inz5 _ _ rfl g1 8 8 (by kernel_rfl) .i64 j (by kernel_rfl) (by omega)) <| ZP8 M 0 j (cv .u8 (sr n (8 * j))) fun u2 M => pl_nil <| au_block <| au_then <| rg_lit <| rV 1 <| ZI 9 ((j : Int) + 1) ((j + 1 : Nat) : Int) <| rV 1 <| nT ?_
  exact exS M
 ·intro a u0 hI
  obtain ⟨v1, rfl, M⟩ := hI
  refine wp_seq <| sR <| rV 1 <| ZF 7 (8 < 8) <| nT <| cF <| wp_exit <| au_then_exit <| au_then_exit <| au_block_exit <| au_then <| sR <| rV 1 <| pl_back M (want_no rfl) (some 20) rfl _ rfl 0 g1 8 8 (by kernel_rfl) _ rfl ((List.range 8).map (wbs n 8)) 8 (sb_av 8 _ _) (by simp) (by rw [wbs_map]; exact wb_nn _) ?_
  rw [wbs_map]
  refine rV 1 <| nT <| wp_ret ?_
  exact b1 M
def pn (m : Nat) : Nat := (16 - m % 16) % 16
theorem pn_lt (m : Nat) : pn m < 16 := Nat.mod_lt _ (by decide)
theorem pn_sum (m : Nat) : (m + pn m) % 16 = 0 := by
 unfold pn
 omega
theorem d_pad (s : Yb) (w : World) (hL : Laid w)  : Cs 110 #[.string s] w (.string (zB (pn s.size))) := by
 go_enter Tryz.func110, Tryz.ntmps110
 have M := Mem.start hL
 refine sq <| sR <| rV 2 <| ZQ 5 .i64 (Int.tmod ((s.size : Nat) : Int) 16) (rem16 (s.size)) <| ZI 6 (16 - ((s.size % 16 : Nat) : Int)) ((16 - s.size % 16 : Nat) : Int) <| zJ 7 (.int .i64 ((pn s.size : Nat) : Int)) (.int .i64 (Int.tmod ((16 - s.size % 16 : Nat) : Int) 16)) (by rw [rem16]; rfl) ?_
 obtain ⟨i0, hi0, hz0, hz1, hz2⟩ := info_parts repExtra.infoByte
 have hpn := pn_lt s.size
 refine pl_makeZ M (want_no rfl) (some 8) rfl 61 5 i0 Tryz.underlying61 hi0 hz0 hz1 (by omega) _ _ rfl .i64 .i64 (pn s.size) (by kernel_rfl) (by kernel_rfl) (by omega) ?_
 intro g1 Z9 u1 hZ9 M
 rw [z_rep] at hZ9
 refine pl_back M (want_no rfl) (some 9) rfl _ rfl 0 g1 (pn s.size) (pn s.size) (by kernel_rfl) _ rfl ((List.range (pn s.size)).map fun _ => 0) _ hZ9 (by simp) (z_nn _) <| rV 1 <| nT <| wp_ret ?_
 exact b1 M
section
variable {P : Program} {ops : Array Oper} {o o2 : Oper} {a : Act} {w : World} {Q : Exit → Act → World → Prop} {S : World → Prop} {n fuel : Nat} {listed : Array Bool}
theorem hl_two (i j : Nat) (hin : i < n) (hjn : j < n) (hr : Region.ready .any ops listed = [i, j]) (hi : ops.toList[i]? = some o) (hj : ops.toList[j]? = some o2)
  (h : PL P ops (Exit.then (fun a' w' => S w' ∧ HL P ops Q S n fuel (listed.setIfInBounds i true) a' w') Q) [o] a w)
  (h2 : PL P ops (Exit.then (fun a' w' => S w' ∧ HL P ops Q S n fuel (listed.setIfInBounds j true) a' w') Q) [o2] a w) : HL P ops Q S n (fuel + 1) listed a w := by
 refine ⟨fun hQ hB inv => ⟨fun h0 => (by rw [hr] at h0; cases h0), fun m hm => ?_⟩⟩
 have hm' := hm
 rw [hr] at hm
 rcases List.mem_cons.1 hm with rfl | hm
 ·exact wpOp_mono (fun a' w' h3 => ⟨fun _ => h3.1, h3.2.out hQ hB (inv.set hm' hin)⟩) (wpOp_one (by rw [← Array.getElem?_toList]; exact hi) h.out)
 ·obtain rfl := List.mem_singleton.1 hm
  exact wpOp_mono (fun a' w' h3 => ⟨fun _ => h3.1, h3.2.out hQ hB (inv.set hm' hjn)⟩) (wpOp_one (by rw [← Array.getElem?_toList]; exact hj) h2.out)
end
theorem c_Nonce (n : Int) (w : World) (hL : Laid w)  : Cs 48 #[.int .u64 n] w (.string (nS n)) := by
 go_enter Tryz.func48, Tryz.ntmps48
 have M := Mem.start hL
 refine sq <| wp_seq <| rgh M [] 5 fun u1 M => qV M 2 5 (.int .u64 n) ?_
 refine hl_two 0 3 (by decide) (by decide) (by kernel_rfl) rfl rfl ?_ ?_
 ·refine ZM M 3 (fun g1 => .slice (some ⟨g1, 0, none⟩) 4 4) (.cells (av 4 (w8 (fun _ => 0))) 5) fun g1 u2 M => nT ?_
  refine ⟨(M.drop (.cons _ (.slnil))), ?_⟩
  refine hl_two 1 3 (by decide) (by decide) (by kernel_rfl) rfl rfl ?_ ?_
  ·refine pl_back M (want_no rfl) (some 4) rfl _ rfl 0 g1 4 4 (by kernel_rfl) _ rfl ((List.range 4).map fun _ => 0) 4 (sb_av 4 _ _) (by simp) (z_nn _) <| nT ?_
   refine ⟨(M.drop (.cons _ (.slnil))), ?_⟩
   refine qO 3 ?_
   refine ZC M 6 (fun w M => c_word n w M.laid) fun u3 M => nT ?_
   refine ⟨(M.drop (.cons _ (.slnil))), ?_⟩
   refine qH (M.drop (.cons _ (.slnil))) 4 7 (.string (nS n)) (fun w _ => (run_cat 9 9 _ _ rfl (zB 4) (wS n) (by kernel_rfl) (by kernel_rfl) (by rw [zB_size, wS_size]; decide)) w) <| qZ ?_
   refine rV 1 <| nT <| au_then <| wp_ret ?_
   exact b1 M
  ·refine ZC M 6 (fun w M => c_word n w M.laid) fun u4 M => nT ?_
   refine ⟨(M.drop (.cons _ (.slnil))), ?_⟩
   refine qO 1 ?_
   refine pl_back M (want_no rfl) (some 4) rfl _ rfl 0 g1 4 4 (by kernel_rfl) _ rfl ((List.range 4).map fun _ => 0) 4 (sb_av 4 _ _) (by simp) (z_nn _) <| nT ?_
   refine ⟨(M.drop (.cons _ (.slnil))), ?_⟩
   refine qH (M.drop (.cons _ (.slnil))) 4 7 (.string (nS n)) (fun w _ => (run_cat 9 9 _ _ rfl (zB 4) (wS n) (by kernel_rfl) (by kernel_rfl) (by rw [zB_size, wS_size]; decide)) w) <| qZ ?_
   refine rV 1 <| nT <| au_then <| wp_ret ?_
   exact b1 M
 ·refine ZC M 6 (fun w M => c_word n w M.laid) fun u5 M => nT ?_
  refine ⟨M, ?_⟩
  refine qO 0 ?_
  refine ZM M 3 (fun g2 => .slice (some ⟨g2, 0, none⟩) 4 4) (.cells (av 4 (w8 (fun _ => 0))) 5) fun g2 u6 M => nT ?_
  refine ⟨(M.drop (.cons _ (.slnil))), ?_⟩
  refine qO 1 ?_
  refine pl_back M (want_no rfl) (some 4) rfl _ rfl 0 g2 4 4 (by kernel_rfl) _ rfl ((List.range 4).map fun _ => 0) 4 (sb_av 4 _ _) (by simp) (z_nn _) <| nT ?_
  refine ⟨(M.drop (.cons _ (.slnil))), ?_⟩
  refine qH (M.drop (.cons _ (.slnil))) 4 7 (.string (nS n)) (fun w _ => (run_cat 9 9 _ _ rfl (zB 4) (wS n) (by kernel_rfl) (by kernel_rfl) (by rw [zB_size, wS_size]; decide)) w) <| qZ ?_
  refine rV 1 <| nT <| au_then <| wp_ret ?_
  exact b1 M
theorem d_Nonce (n : Int) (w : World) (hL : Laid w)  : Cs 53 #[.int .u64 n] w (.string (nS n)) := by
 go_enter Tryz.func53, Tryz.ntmps53
 have M := Mem.start hL
 refine sq <| wp_seq <| rgh M [] 5 fun u1 M => qV M 2 5 (.int .u64 n) ?_
 refine hl_two 0 3 (by decide) (by decide) (by kernel_rfl) rfl rfl ?_ ?_
 ·refine ZM M 3 (fun g1 => .slice (some ⟨g1, 0, none⟩) 4 4) (.cells (av 4 (w8 (fun _ => 0))) 5) fun g1 u2 M => nT ?_
  refine ⟨(M.drop (.cons _ (.slnil))), ?_⟩
  refine hl_two 1 3 (by decide) (by decide) (by kernel_rfl) rfl rfl ?_ ?_
  ·refine pl_back M (want_no rfl) (some 4) rfl _ rfl 0 g1 4 4 (by kernel_rfl) _ rfl ((List.range 4).map fun _ => 0) 4 (sb_av 4 _ _) (by simp) (z_nn _) <| nT ?_
   refine ⟨(M.drop (.cons _ (.slnil))), ?_⟩
   refine qO 3 ?_
   refine ZC M 6 (fun w M => d_eight n w M.laid) fun u3 M => nT ?_
   refine ⟨(M.drop (.cons _ (.slnil))), ?_⟩
   refine qH (M.drop (.cons _ (.slnil))) 4 7 (.string (nS n)) (fun w _ => (run_cat 9 9 _ _ rfl (zB 4) (wS n) (by kernel_rfl) (by kernel_rfl) (by rw [zB_size, wS_size]; decide)) w) <| qZ ?_
   refine rV 1 <| nT <| au_then <| wp_ret ?_
   exact b1 M
  ·refine ZC M 6 (fun w M => d_eight n w M.laid) fun u4 M => nT ?_
   refine ⟨(M.drop (.cons _ (.slnil))), ?_⟩
   refine qO 1 ?_
   refine pl_back M (want_no rfl) (some 4) rfl _ rfl 0 g1 4 4 (by kernel_rfl) _ rfl ((List.range 4).map fun _ => 0) 4 (sb_av 4 _ _) (by simp) (z_nn _) <| nT ?_
   refine ⟨(M.drop (.cons _ (.slnil))), ?_⟩
   refine qH (M.drop (.cons _ (.slnil))) 4 7 (.string (nS n)) (fun w _ => (run_cat 9 9 _ _ rfl (zB 4) (wS n) (by kernel_rfl) (by kernel_rfl) (by rw [zB_size, wS_size]; decide)) w) <| qZ ?_
   refine rV 1 <| nT <| au_then <| wp_ret ?_
   exact b1 M
 ·refine ZC M 6 (fun w M => d_eight n w M.laid) fun u5 M => nT ?_
  refine ⟨M, ?_⟩
  refine qO 0 ?_
  refine ZM M 3 (fun g2 => .slice (some ⟨g2, 0, none⟩) 4 4) (.cells (av 4 (w8 (fun _ => 0))) 5) fun g2 u6 M => nT ?_
  refine ⟨(M.drop (.cons _ (.slnil))), ?_⟩
  refine qO 1 ?_
  refine pl_back M (want_no rfl) (some 4) rfl _ rfl 0 g2 4 4 (by kernel_rfl) _ rfl ((List.range 4).map fun _ => 0) 4 (sb_av 4 _ _) (by simp) (z_nn _) <| nT ?_
  refine ⟨(M.drop (.cons _ (.slnil))), ?_⟩
  refine qH (M.drop (.cons _ (.slnil))) 4 7 (.string (nS n)) (fun w _ => (run_cat 9 9 _ _ rfl (zB 4) (wS n) (by kernel_rfl) (by kernel_rfl) (by rw [zB_size, wS_size]; decide)) w) <| qZ ?_
  refine rV 1 <| nT <| au_then <| wp_ret ?_
  exact b1 M
theorem sfA (key nonce ad s : Yb) (m : Nat) (_hm : m ≤ 16) (h : key.size ≠ 32) (w : World) (hL : Laid w)  : Cs 71 #[.string key, .string nonce, .string ad, .string s, .int .i64 (m : Int)] w (.int .i64 2) := by
 go_enter Tryz.func71, Tryz.ntmps71
 have M := Mem.start hL
 refine sq <| wp_seq <| wp_block <| wp_seq <| sR <| rV 2 <| ZS 14 ((key.size : Int) = 32) <| rV 1 <| nT <| cT <| wp_skip <| au_then <| cT <| sq <| wp_ret <| au_block_ret ?_
 refine au_then_ret ?_
 exact b1 M
theorem sfB (key nonce ad s : Yb) (m : Nat) (_hm : m ≤ 16) (h : key.size = 32) (h2 : nonce.size ≠ 12) (w : World) (hL : Laid w)  : Cs 71 #[.string key, .string nonce, .string ad, .string s, .int .i64 (m : Int)] w (.int .i64 2) := by
 go_enter Tryz.func71, Tryz.ntmps71
 have M := Mem.start hL
 refine sq <| wp_seq <| wp_block <| wp_seq <| sR <| rV 2 <| ZD 14 ((key.size : Int) = 32) <| rV 1 <| nT <| cF <| rg_lit <| rV 2 <| ZS 17 ((nonce.size : Int) = 12) <| rV 1 <| nT <| cT ?_
 refine sq <| wp_ret <| au_block_ret <| au_then_ret ?_
 exact b1 M
theorem sfC (key nonce ad s : Yb) (m : Nat) (_hm : m ≤ 16) (hk : key.size = 32 ∧ nonce.size = 12) (h : 65536 < ad.size) (w : World) (hL : Laid w)  : Cs 71 #[.string key, .string nonce, .string ad, .string s, .int .i64 (m : Int)] w (.int .i64 4) := by
 go_enter Tryz.func71, Tryz.ntmps71
 have M := Mem.start hL
 refine sq <| wp_seq <| wp_block <| wp_seq <| sR <| rV 2 <| ZD 14 ((key.size : Int) = 32) <| rV 1 <| nT <| cF <| rg_lit <| rV 2 <| ZD 17 ((nonce.size : Int) = 12) <| rV 1 <| nT <| cF ?_
 refine wp_seq <| sR <| rV 2 <| ZT 21 ((65536 : Int) < (ad.size : Int)) <| rV 1 <| nT <| cT <| wp_skip <| au_then <| cT <| sq <| wp_ret <| au_block_ret <| au_then_ret ?_
 exact b1 M
theorem sfD (key nonce ad s : Yb) (m : Nat) (_hm : m ≤ 16) (hk : key.size = 32 ∧ nonce.size = 12) (h : ¬ 65536 < ad.size) (h2 : 65536 + m < s.size) (w : World) (hL : Laid w)  : Cs 71 #[.string key, .string nonce, .string ad, .string s, .int .i64 (m : Int)] w (.int .i64 4) := by
 go_enter Tryz.func71, Tryz.ntmps71
 have M := Mem.start hL
 refine sq <| wp_seq <| wp_block <| wp_seq <| sR <| rV 2 <| ZD 14 ((key.size : Int) = 32) <| rV 1 <| nT <| cF <| rg_lit <| rV 2 <| ZD 17 ((nonce.size : Int) = 12) <| rV 1 <| nT <| cF ?_
 refine wp_seq <| sR <| rV 2 <| ZF 21 ((65536 : Int) < (ad.size : Int)) <| rV 1 <| nT <| cF <| rg_lit <| rV 3 <| ZI 25 (65536 + (m : Int)) ((65536 + m : Nat) : Int) <| ZT 26 (((65536 + m : Nat) : Int) < (s.size : Int)) <| rV 1 <| nT <| cT <| sq <| wp_ret ?_
 refine au_block_ret <| au_then_ret ?_
 exact b1 M
theorem sfE (key nonce ad s : Yb) (m : Nat) (_hm : m ≤ 16) (hk : key.size = 32 ∧ nonce.size = 12) (h : ¬ 65536 < ad.size) (h2 : s.size < m) (w : World) (hL : Laid w)  : Cs 71 #[.string key, .string nonce, .string ad, .string s, .int .i64 (m : Int)] w (.int .i64 100) := by
 go_enter Tryz.func71, Tryz.ntmps71
 have M := Mem.start hL
 refine sq <| wp_seq <| wp_block <| wp_seq <| sR <| rV 2 <| ZD 14 ((key.size : Int) = 32) <| rV 1 <| nT <| cF <| rg_lit <| rV 2 <| ZD 17 ((nonce.size : Int) = 12) <| rV 1 <| nT <| cF ?_
 refine wp_seq <| sR <| rV 2 <| ZF 21 ((65536 : Int) < (ad.size : Int)) <| rV 1 <| nT <| cF <| rg_lit <| rV 3 <| ZI 25 (65536 + (m : Int)) ((65536 + m : Nat) : Int) <| ZF 26 (((65536 + m : Nat) : Int) < (s.size : Int)) <| rV 1 <| nT <| cF <| sR <| rV 3 ?_
 refine ZT 31 ((s.size : Int) < (m : Int)) <| rV 1 <| nT <| cT <| sq <| wp_ret <| au_block_ret <| au_then_ret ?_
 exact b1 M
theorem sfF (key nonce ad s : Yb) (m : Nat) (_hm : m ≤ 16) (hk : key.size = 32 ∧ nonce.size = 12) (h : ¬ 65536 < ad.size) (h2 : ¬ 65536 + m < s.size) (h3 : ¬ s.size < m) (w : World) (hL : Laid w)  : Cs 71 #[.string key, .string nonce, .string ad, .string s, .int .i64 (m : Int)] w (.int .i64 0) := by
 go_enter Tryz.func71, Tryz.ntmps71
 have M := Mem.start hL
 refine sq <| wp_seq <| wp_block <| wp_seq <| sR <| rV 2 <| ZD 14 ((key.size : Int) = 32) <| rV 1 <| nT <| cF <| rg_lit <| rV 2 <| ZD 17 ((nonce.size : Int) = 12) <| rV 1 <| nT <| cF ?_
 refine wp_seq <| sR <| rV 2 <| ZF 21 ((65536 : Int) < (ad.size : Int)) <| rV 1 <| nT <| cF <| rg_lit <| rV 3 <| ZI 25 (65536 + (m : Int)) ((65536 + m : Nat) : Int) <| ZF 26 (((65536 + m : Nat) : Int) < (s.size : Int)) <| rV 1 <| nT <| cF <| sR <| rV 3 ?_
 refine ZF 31 ((s.size : Int) < (m : Int)) <| rV 1 <| nT <| cF <| wp_skip <| au_block <| au_then <| sq <| wp_ret ?_
 exact b1 M
def sf (key nonce ad s : Yb) (m : Nat) : Int := if key.size ≠ 32 ∨ nonce.size ≠ 12 then 2 else if 65536 < ad.size ∨ 65536 + m < s.size then 4 else if s.size < m then 100 else 0
theorem c_fault (key nonce ad s : Yb) (m : Nat) (hm : m ≤ 16) (w : World) (hL : Laid w) : Cs 71 #[.string key, .string nonce, .string ad, .string s, .int .i64 (m : Int)] w (.int .i64 (sf key nonce ad s m)) := by
 unfold sf
 by_cases h : key.size = 32
 ·by_cases h2 : nonce.size = 12
  ·rw [if_neg (by omega)]
   by_cases h3 : 65536 < ad.size
   ·rw [if_pos (.inl h3)]
    exact sfC key nonce ad s m hm ⟨h, h2⟩ h3 w hL
   ·by_cases h4 : 65536 + m < s.size
    ·rw [if_pos (.inr h4)]
     exact sfD key nonce ad s m hm ⟨h, h2⟩ h3 h4 w hL
    ·rw [if_neg (by omega)]
     by_cases h5 : s.size < m
     ·rw [if_pos h5]
      exact sfE key nonce ad s m hm ⟨h, h2⟩ h3 h5 w hL
     ·rw [if_neg h5]
      exact sfF key nonce ad s m hm ⟨h, h2⟩ h3 h4 h5 w hL
  ·rw [if_pos (.inr h2)]
   exact sfB key nonce ad s m hm h h2 w hL
 ·rw [if_pos (.inl h)]
  exact sfA key nonce ad s m hm h w hL
open Go.RowKit
def j1 (ad : Yb) : List UInt8 := ad.data.toList ++ List.replicate (pn ad.size) 0
def j1c (ad c : Yb) : List UInt8 := j1 ad ++ c.data.toList
def j2 (ad c : Yb) : List UInt8 := j1c ad c ++ List.replicate (pn (ad.size + pn ad.size + c.size)) 0
def m1 (ad : Yb) : List UInt8 := (wS (ad.size : Int)).data.toList
def m2 (ad c : Yb) : List UInt8 := m1 ad ++ (wS (c.size : Int)).data.toList
def mS (ad c : Yb) : ByteArray := ⟨(m2 ad c).toArray⟩
def jn (ad c : Yb) : ByteArray := ⟨(j2 ad c ++ m2 ad c).toArray⟩
theorem dl_len (s : Yb) : s.data.toList.length = s.size := rfl
theorem j1_len (ad : Yb) : (j1 ad).length = ad.size + pn ad.size := by
 unfold j1
 rw [List.length_append, dl_len, List.length_replicate]
theorem j1c_len (ad c : Yb) : (j1c ad c).length = ad.size + pn ad.size + c.size := by
 unfold j1c
 rw [List.length_append, dl_len, j1_len]
theorem j2_len (ad c : Yb) : (j2 ad c).length = ad.size + pn ad.size + c.size + pn (ad.size + pn ad.size + c.size) := by
 unfold j2
 rw [List.length_append, j1c_len, List.length_replicate]
theorem m1_len (ad : Yb) : (m1 ad).length = 8 := by
 unfold m1
 rw [dl_len, wS_size]
theorem m2_len (ad c : Yb) : (m2 ad c).length = 16 := by
 unfold m2
 rw [List.length_append, dl_len, wS_size, m1_len]
theorem rep_more (l : List UInt8) (j : Nat) : l ++ List.replicate j 0 ++ [UInt8.ofNat (0 : Int).toNat] = l ++ List.replicate (j + 1) 0 := by
 rw [List.append_assoc, List.replicate_succ']
 rfl
theorem rep_len (l : List UInt8) (n j : Nat) (h : l.length = n) : (l ++ List.replicate j 0).length = n + j := by
 rw [List.length_append, List.length_replicate, h]
theorem c_joined (ad c : Yb) (gt : Nat) (w : World) (hL : Laid w) (hz : ad.size + c.size ≤ 150000) (hg : gt < w.heap.size) (h0 : w.cell? ⟨gt, 0, none⟩ = some (.string ad)) (h1 : w.cell? ⟨gt, 1, none⟩ = some (.string c)) : Cs 104 #[.slice (some ⟨gt, 0, none⟩) 2 2] w (.string (jn ad c)) := by
 have hpa := pn_lt ad.size
 go_enter Tryz.func104, Tryz.ntmps104
 have M := Mem.start hL
 refine sq <| sR <| pN M 3 (.cells (av 2 bF0) 177) ?_
 intro k1 u1 M
 refine pN M 4 (.cells (av 2 bF0) 177) ?_
 intro k2 u2 M
 refine pl_nil ?_
 have hS := SN.start2 M
 clear M
 have M := hS.mem hL
 refine au_then <| wp_seq <| sq <| wp_block <| wp_loop_rounds 3 ?_
 refine rounds_go <| sq <| wp_seq <| cT <| wp_skip <| au_then <| wp_seq <| wp_block <| sR <| pH 11 (pJ gt) (run_ix0 83 9 Tryz.underlying83 inz9 _ _ rfl gt 2 2 (by kernel_rfl) .i64 0 (by kernel_rfl) (by decide)) <| pE M 12 gt 0 (.string ad) (fun w M => M.oldc (hS.cell hg h0) (by simp)) <| rV 1 <| nT <| sR <| rV 1 <| pl_callr (want_no rfl) (some 14) rfl 142 #[pJ k1, .string ad] (.tuple #[.int .i64 (ad.size : Int), .nilIface]) _ (fun _ => by kernel_rfl) ((hS.next M).wstr hL ad (by show 0 + ad.size ≤ _; omega)) ?_
 intro u3 hS9
 clear M hS
 have hS : SN w [⟨k1, ad.data.toList⟩, ⟨k2, []⟩] [] u3 := hS9
 have M := hS.mem hL
 refine nT <| wp_seq <| wp_block ?_
 obtain ⟨N0, hN0⟩ : ∃ N, N = pn ad.size := ⟨_, rfl⟩
 have hP0 : N0 = (16 - ad.size % 16) % 16 := hN0
 refine au_loop (fun j a u => ∃ v1 : NV, a = (fm ([.slice (some ⟨gt, 0, none⟩) 2 2, v1 1, .string ⟨#[]⟩, pJ k1, pJ k2, v1 5, .string ad, .slice (some ⟨gt, 0, none⟩) 2 2, .int .i64 2, .int .i64 0] ++ vr v1 10 18)) ∧ SN w [⟨k1, ad.data.toList ++ List.replicate j 0⟩, ⟨k2, []⟩] [] u) N0 (exS (by rw [List.replicate_zero, List.append_nil]; exact hS.next M)) ?_ ?_
 ·intro j a u0 hj hI
  clear M hS
  obtain ⟨v1, rfl, hS⟩ := hI
  have M := hS.mem hL
  refine wp_seq <| sR ?_
  refine pl_callr (want_no rfl) (some 15) rfl 143 #[pJ k1] (.int .i64 ((ad.size + j : Nat) : Int)) _ (fun _ => by kernel_rfl) (by have h9 := (hS.next M).len hL; rw [rep_len _ _ _ (dl_len ad)] at h9; exact h9) ?_
  intro u4 hS9
  clear M hS
  have hS : SN w [⟨k1, ad.data.toList ++ List.replicate j 0⟩, ⟨k2, []⟩] [] u4 := hS9
  have M := hS.mem hL
  refine ZQ 16 .i64 (Int.tmod ((ad.size + j : Nat) : Int) 16) (rem16 (ad.size + j)) <| ZS 17 ((((ad.size + j) % 16 : Nat) : Int) = 0) <| nT <| cT <| wp_skip <| au_then <| wp_block <| rg_lit ?_
  refine pl_callr (want_no rfl) (some 18) rfl 130 #[pJ k1, .int .u8 0] .nilIface _ (fun _ => by kernel_rfl) ((hS.next M).wbyte hL 0 (by decide) (by decide) (by rw [rep_len _ _ _ (dl_len ad)]; omega)) ?_
  intro u5 hS9
  clear M hS
  have hS : SN w [⟨k1, ad.data.toList ++ List.replicate (j + 1) 0⟩, ⟨k2, []⟩] [] u5 := (by rw [← rep_more]; exact hS9)
  have M := hS.mem hL
  refine pl_nil <| au_block <| au_then ?_
  exact exS hS
 ·intro a u0 hI
  clear M hS
  obtain ⟨v1, rfl, hS⟩ := hI
  have M := hS.mem hL
  refine wp_seq <| sR ?_
  refine pl_callr (want_no rfl) (some 15) rfl 143 #[pJ k1] (.int .i64 ((ad.size + N0 : Nat) : Int)) _ (fun _ => by kernel_rfl) (by have h9 := (hS.next M).len hL; rw [rep_len _ _ _ (dl_len ad)] at h9; exact h9) ?_
  intro u6 hS9
  clear M hS
  have hS : SN w [⟨k1, ad.data.toList ++ List.replicate N0 0⟩, ⟨k2, []⟩] [] u6 := hS9
  have M := hS.mem hL
  refine ZQ 16 .i64 (Int.tmod ((ad.size + N0 : Nat) : Int) 16) (rem16 (ad.size + N0)) <| ZD 17 ((((ad.size + N0) % 16 : Nat) : Int) = 0) <| nT <| cF <| wp_exit <| au_then_exit <| au_then_exit <| au_block_exit <| au_then ?_
  replace hS : SN w [⟨k1, (j1 ad)⟩, ⟨k2, []⟩] [] u6 := (by have h9 := hS.next M; rw [hN0] at h9; exact h9)
  clear M
  have M := hS.mem hL
  refine rg_lit <| rV 2 <| ZQ 21 .u64 (cv .u64 (ad.size : Int)) (cvu64 _ (by omega)) <| pC M 22 74 #[.int .u64 (ad.size : Int)] (.string (wS (ad.size : Int))) (fun w M => c_word _ w M.laid) fun u7 M => pl_callr (want_no rfl) (some 23) rfl 142 #[pJ k2, .string (wS (ad.size : Int))] (.tuple #[.int .i64 ((wS (ad.size : Int)).size : Int), .nilIface]) _ (fun _ => by kernel_rfl) (((hS.next M).perm (.swap _ _ _)).wstr hL (wS (ad.size : Int)) (by rw [wS_size]; show 0 + 8 ≤ _; omega)) ?_
  intro u8 hS9
  clear M hS
  have hS : SN w [⟨k1, (j1 ad)⟩, ⟨k2, (m1 ad)⟩] [] u8 := hS9.perm (.swap _ _ _)
  have M := hS.mem hL
  refine pl_nil <| au_block <| au_then <| rg_lit <| rV 2 <| nT <| rounds_go <| sq <| wp_seq <| cT <| wp_skip <| au_then <| wp_seq <| wp_block <| sR <| pH 11 (pJ gt 1) (run_ix0 83 9 Tryz.underlying83 inz9 _ _ rfl gt 2 2 (by kernel_rfl) .i64 1 (by kernel_rfl) (by decide)) ?_
  refine pE M 12 gt 1 (.string c) (fun w M => M.oldc (hS.cell hg h1) (by simp)) <| rV 1 <| nT <| sR <| rV 1 <| pl_callr (want_no rfl) (some 14) rfl 142 #[pJ k1, .string c] (.tuple #[.int .i64 (c.size : Int), .nilIface]) _ (fun _ => by kernel_rfl) ((hS.next M).wstr hL c (by rw [j1_len]; omega)) ?_
  intro u9 hS9
  clear M hS
  have hS : SN w [⟨k1, (j1c ad c)⟩, ⟨k2, (m1 ad)⟩] [] u9 := hS9
  have M := hS.mem hL
  refine nT <| wp_seq <| wp_block ?_
  obtain ⟨N1, hN1⟩ : ∃ N, N = pn (ad.size + pn ad.size + c.size) := ⟨_, rfl⟩
  have hP1 : N1 = (16 - (ad.size + pn ad.size + c.size) % 16) % 16 := hN1
  refine au_loop (fun j a u => ∃ v2 : NV, a = (fm ([.slice (some ⟨gt, 0, none⟩) 2 2, v2 1, .string ⟨#[]⟩, pJ k1, pJ k2, v2 5, .string c, .slice (some ⟨gt, 0, none⟩) 2 2, .int .i64 2, .int .i64 1] ++ vr v2 10 18)) ∧ SN w [⟨k1, (j1c ad c) ++ List.replicate j 0⟩, ⟨k2, (m1 ad)⟩] [] u) N1 (exS (by rw [List.replicate_zero, List.append_nil]; exact hS.next M)) ?_ ?_
  ·intro j a u0 hj hI
   clear M hS
   obtain ⟨v2, rfl, hS⟩ := hI
   have M := hS.mem hL
   refine wp_seq <| sR ?_
   refine pl_callr (want_no rfl) (some 15) rfl 143 #[pJ k1] (.int .i64 (((ad.size + pn ad.size + c.size) + j : Nat) : Int)) _ (fun _ => by kernel_rfl) (by have h9 := (hS.next M).len hL; rw [rep_len _ _ _ (j1c_len ad c)] at h9; exact h9) ?_
   intro u10 hS9
   clear M hS
   have hS : SN w [⟨k1, (j1c ad c) ++ List.replicate j 0⟩, ⟨k2, (m1 ad)⟩] [] u10 := hS9
   have M := hS.mem hL
   refine ZQ 16 .i64 (Int.tmod (((ad.size + pn ad.size + c.size) + j : Nat) : Int) 16) (rem16 ((ad.size + pn ad.size + c.size) + j)) <| ZS 17 (((((ad.size + pn ad.size + c.size) + j) % 16 : Nat) : Int) = 0) <| nT <| cT <| wp_skip <| au_then <| wp_block <| rg_lit ?_
   refine pl_callr (want_no rfl) (some 18) rfl 130 #[pJ k1, .int .u8 0] .nilIface _ (fun _ => by kernel_rfl) ((hS.next M).wbyte hL 0 (by decide) (by decide) (by rw [rep_len _ _ _ (j1c_len ad c)]; omega)) ?_
   intro u11 hS9
   clear M hS
   have hS : SN w [⟨k1, (j1c ad c) ++ List.replicate (j + 1) 0⟩, ⟨k2, (m1 ad)⟩] [] u11 := (by rw [← rep_more]; exact hS9)
   have M := hS.mem hL
   refine pl_nil <| au_block <| au_then ?_
   exact exS hS
  ·intro a u0 hI
   clear M hS
   obtain ⟨v2, rfl, hS⟩ := hI
   have M := hS.mem hL
   refine wp_seq <| sR ?_
   refine pl_callr (want_no rfl) (some 15) rfl 143 #[pJ k1] (.int .i64 (((ad.size + pn ad.size + c.size) + N1 : Nat) : Int)) _ (fun _ => by kernel_rfl) (by have h9 := (hS.next M).len hL; rw [rep_len _ _ _ (j1c_len ad c)] at h9; exact h9) ?_
   intro u12 hS9
   clear M hS
   have hS : SN w [⟨k1, (j1c ad c) ++ List.replicate N1 0⟩, ⟨k2, (m1 ad)⟩] [] u12 := hS9
   have M := hS.mem hL
   refine ZQ 16 .i64 (Int.tmod (((ad.size + pn ad.size + c.size) + N1 : Nat) : Int) 16) (rem16 ((ad.size + pn ad.size + c.size) + N1)) <| ZD 17 (((((ad.size + pn ad.size + c.size) + N1) % 16 : Nat) : Int) = 0) <| nT <| cF <| wp_exit <| au_then_exit <| au_then_exit <| au_block_exit <| au_then ?_
   replace hS : SN w [⟨k1, (j2 ad c)⟩, ⟨k2, (m1 ad)⟩] [] u12 := (by have h9 := hS.next M; rw [hN1] at h9; exact h9)
   clear M
   have M := hS.mem hL
   refine rg_lit <| rV 2 <| ZQ 21 .u64 (cv .u64 (c.size : Int)) (cvu64 _ (by omega)) <| pC M 22 74 #[.int .u64 (c.size : Int)] (.string (wS (c.size : Int))) (fun w M => c_word _ w M.laid) fun u13 M => pl_callr (want_no rfl) (some 23) rfl 142 #[pJ k2, .string (wS (c.size : Int))] (.tuple #[.int .i64 ((wS (c.size : Int)).size : Int), .nilIface]) _ (fun _ => by kernel_rfl) (((hS.next M).perm (.swap _ _ _)).wstr hL (wS (c.size : Int)) (by rw [m1_len, wS_size]; decide)) ?_
   intro u14 hS9
   clear M hS
   have hS : SN w [⟨k1, (j2 ad c)⟩, ⟨k2, (m2 ad c)⟩] [] u14 := hS9.perm (.swap _ _ _)
   have M := hS.mem hL
   refine pl_nil <| au_block <| au_then <| rg_lit <| rV 2 <| nT <| rounds_go <| sq <| wp_seq <| cF <| wp_exit <| au_then_exit <| au_then_exit <| au_block_exit <| au_then <| sR ?_
   refine pl_callr (want_no rfl) (some 25) rfl 131 #[pJ k2] (.string (mS ad c)) _ (fun _ => by kernel_rfl) (((hS.next M).perm (.swap _ _ _)).str hL (fun e => by have := m2_len ad c; rw [e] at this; cases this)) ?_
   intro u15 hS9
   clear M hS
   have hS : SN w [⟨k1, (j2 ad c)⟩, ⟨k2, (m2 ad c)⟩] [] u15 := hS9.perm (.swap _ _ _)
   have M := hS.mem hL
   refine pl_callr (want_no rfl) (some 26) rfl 142 #[pJ k1, .string (mS ad c)] (.tuple #[.int .i64 ((mS ad c).size : Int), .nilIface]) _ (fun _ => by kernel_rfl) ((hS.next M).wstr hL (mS ad c) (by rw [j2_len]; show _ + (m2 ad c).length ≤ _; rw [m2_len]; have := pn_lt (ad.size + pn ad.size + c.size); omega)) ?_
   intro u16 hS9
   clear M hS
   have hS : SN w [⟨k1, (j2 ad c ++ m2 ad c)⟩, ⟨k2, (m2 ad c)⟩] [] u16 := hS9
   have M := hS.mem hL
   refine nT <| sR <| pl_callr (want_no rfl) (some 27) rfl 131 #[pJ k1] (.string (jn ad c)) _ (fun _ => by kernel_rfl) ((hS.next M).str hL (fun e => by have := j2_len ad c; have h3 := congrArg List.length e; rw [List.length_append, m2_len] at h3; simp at h3)) ?_
   intro u17 hS9
   clear M hS
   have hS : SN w [⟨k1, (j2 ad c ++ m2 ad c)⟩, ⟨k2, (m2 ad c)⟩] [] u17 := hS9
   have M := hS.mem hL
   refine rV 1 <| nT <| wp_ret ?_
   exact bX (.string (jn ad c)) ⟨rfl, (hS.next M).bel⟩
open Go.RowKit
def tx2 (ad c : Yb) : Nat → Value := fun i => if i = 0 then .string ad else .string c
def otk (key nonce : Yb) : ByteArray := (blk (fw key nonce 0)).extract 0 32
theorem otk_size (key nonce : Yb) : (otk key nonce).size = 32 := by
 unfold otk
 rw [ByteArray.size_extract, blk_size]
 rfl
theorem jn_size (ad c : Yb) : (jn ad c).size ≤ ad.size + c.size + 48 := by
 have h : (jn ad c).size = (j2 ad c ++ m2 ad c).length := rfl
 rw [h, List.length_append, j2_len, m2_len]
 have := pn_lt ad.size
 have := pn_lt (ad.size + pn ad.size + c.size)
 omega
def tgO (key nonce ad c : Yb) : ByteArray := Pol.tagS (otk key nonce) (jn ad c)
theorem tgO_size (key nonce ad c : Yb) : (tgO key nonce ad c).size = 16 := Pol.tagS_size _ _
def tn (key nonce s : Yb) : ByteArray := oS (fw key nonce 1) s
theorem tn_size (key nonce s : Yb) : (tn key nonce s).size = s.size := oS_size _ _
def sealS (key nonce ad s : Yb) : ByteArray := tn key nonce s ++ tgO key nonce ad (tn key nonce s)
theorem sealS_size (key nonce ad s : Yb) : (sealS key nonce ad s).size = s.size + 16 := by
 unfold sealS
 rw [ByteArray.size_append, tn_size, tgO_size]
theorem sf_zero {key nonce ad s : Yb} {m : Nat} (h : sf key nonce ad s m = 0) : (key.size = 32 ∧ nonce.size = 12) ∧ ad.size ≤ 65536 ∧ s.size ≤ 65536 + m ∧ m ≤ s.size := by
 unfold sf at h
 split at h
 ·cases h
 ·split at h
  ·cases h
  ·split at h
   ·cases h
   ·omega
theorem sf_ok {key nonce ad s : Yb} {m : Nat} (hk : key.size = 32 ∧ nonce.size = 12) (ha : ad.size ≤ 65536) (hs : s.size ≤ 65536 + m) (hm : m ≤ s.size) : sf key nonce ad s m = 0 := by
 unfold sf
 rw [if_neg (by omega), if_neg (by omega), if_neg (by omega)]
theorem c_Turn1 (key nonce s : Yb) (hm : key.size = 32 ∧ nonce.size = 12) (hz : s.size ≤ 65536) (w : World) (hL : Laid w) : Cs 72 #[.string key, .string nonce, .int .u32 1, .string s] w (.tuple #[.string (tn key nonce s), .int .i64 0]) := c_TurnA key nonce 1 (by decide) s (by omega) hm (by omega) w hL
theorem c_tagOf (key nonce ad c : Yb) (hm : key.size = 32 ∧ nonce.size = 12) (hz : ad.size + c.size ≤ 150000) (w : World) (hL : Laid w)  : Cs 73 #[.string key, .string nonce, .string ad, .string c] w (.string (tgO key nonce ad c)) := by
 go_enter Tryz.func73, Tryz.ntmps73
 have M := Mem.start hL
 refine sq <| sR <| rV 2 <| ZC M 16 (fun w M => c_BlockA key nonce 0 hm w M.laid) fun u1 M => rV 5 <| nT <| wp_seq <| rgh M [] 11 fun u2 M => qV M 0 20 (.string (blk (fw key nonce 0))) <| qH M 1 21 (.string (otk key nonce)) (fun w _ => (run_strh 9 Tryz.underlying9 _ _ rfl (blk (fw key nonce 0)) (by kernel_rfl) .i64 32 (by kernel_rfl) (by rw [blk_size]; decide) _ rfl) w) <| qV M 2 22 (.string ad) <| qV M 3 23 (.string c) <| qO 4 ?_
 refine ZM M 24 (fun g1 => .slice (some ⟨g1, 0, none⟩) 2 2) (.cells (av 2 (tx2 ad c)) 9) fun g1 u3 M => nT ?_
 refine ⟨(M.drop (.cons _ (.slnil))), ?_⟩
 refine qO 5 ?_
 refine ZC M 25 (fun w M => c_joined ad c g1 w M.laid hz (Array.getElem?_eq_some_iff.1 (M.get 0 rfl)).1 (cell_av (M.get 0 rfl) (by decide)) (cell_av (M.get 0 rfl) (by decide))) fun u4 M => ?_
 refine nT ?_
 refine ⟨(M.drop (.cons _ (.slnil))), ?_⟩
 refine qO 6 ?_
 refine pC M 26 103 #[.string (otk key nonce), .string (jn ad c)] (.tuple #[.string (tgO key nonce ad c), .int .i64 0]) (fun w M => Pol.c_Tag _ _ (otk_size key nonce) (by have := jn_size ad c; omega) w M.laid) fun u5 M => nT ?_
 refine ⟨(M.drop (.cons _ (.slnil))), ?_⟩
 have qM := M.drop (.cons _ (.slnil))
 refine qV qM 7 19 (.tuple #[.string (tgO key nonce ad c), .int .i64 0]) <| qV qM 8 27 (.string (tgO key nonce ad c)) <| qV qM 9 28 (.int .i64 0) <| qV qM 10 11 (.string (tgO key nonce ad c)) <| qZ ?_
 refine rV 1 <| nT <| au_then <| sq <| wp_ret ?_
 exact b1 M
theorem c_SealA (key nonce ad s : Yb) (h : sf key nonce ad s 0 = 0) (w : World) (hL : Laid w)  : Cs 47 #[.string key, .string nonce, .string ad, .string s] w (.tuple #[.string (sealS key nonce ad s), .int .i64 0]) := by
 go_enter Tryz.func47, Tryz.ntmps47
 have M := Mem.start hL
 refine sq <| wp_seq <| sR <| rV 4 <| ZC M 17 (fun w M => c_fault key nonce ad s 0 (by decide) w M.laid) fun u1 M => rV 1 <| nT <| sR <| rV 1 <| wD 19 h <| nT <| cF <| wp_skip <| au_then <| sR <| rV 3 ?_
 refine ZC M 25 (fun w M => c_Turn1 key nonce s (sf_zero h).1 (by have := sf_zero h; omega) w M.laid) fun u2 M => rV 5 <| nT <| sR <| rV 5 <| ZC M 33 (fun w M => c_tagOf key nonce ad (tn key nonce s) (sf_zero h).1 (by have := sf_zero h; rw [tn_size]; omega) w M.laid) fun u3 M => pH 34 (.string (sealS key nonce ad s)) (run_cat 9 9 _ _ rfl (tn key nonce s) (tgO key nonce ad (tn key nonce s)) (by kernel_rfl) (by kernel_rfl) (by rw [tn_size, tgO_size]; have := sf_zero h; omega)) <| rV 2 <| nT <| wp_ret ?_
 exact b1 M
theorem cx_size (s : Yb) : (s.extract 0 (s.size - 16)).size = s.size - 16 := by
 rw [ByteArray.size_extract]
 omega
def tgX (key nonce ad s : Yb) : ByteArray := tgO key nonce ad (s.extract 0 (s.size - 16))
def opS (key nonce s : Yb) : ByteArray := tn key nonce (s.extract 0 (s.size - 16))
theorem c_OpenA (key nonce ad s : Yb) (h : sf key nonce ad s 16 = 0) (e : tgX key nonce ad s = s.extract (s.size - 16) s.size) (w : World) (hL : Laid w)  : Cs 54 #[.string key, .string nonce, .string ad, .string s] w (.tuple #[.string (opS key nonce s), .int .i64 0]) := by
 go_enter Tryz.func54, Tryz.ntmps54
 have M := Mem.start hL
 have hs16 : 16 ≤ s.size := (sf_zero h).2.2.2
 have hs17 : s.size ≤ 65536 + 16 := (sf_zero h).2.2.1
 refine sq <| wp_seq <| sR <| rV 4 <| ZC M 17 (fun w M => c_fault key nonce ad s 16 (by decide) w M.laid) fun u1 M => rV 1 <| nT <| sR <| rV 1 <| wD 19 h <| nT <| cF <| wp_skip <| au_then <| wp_seq <| rgh M [] 11 fun u2 M => ?_
 refine qV M 0 21 (.string s) <| qV M 1 22 (.string s) <| qV M 2 23 (.int .i64 (s.size : Int)) ?_
 refine qH M 3 24 (.int .i64 ((s.size - 16 : Nat) : Int)) (fun w _ => (fun w => Eq.trans (b := .ok (.value (.int .i64 (IntKind.wrap .i64 ((s.size : Int) - 16)))) w) (by kernel_rfl) (by rw [wrap64 (by omega) (by omega)]; congr 3 <;> omega)) w) ?_
 refine qH M 4 25 (.string (s.extract 0 (s.size - 16))) (fun w _ => (run_strh 9 Tryz.underlying9 _ _ rfl s (by kernel_rfl) .i64 (s.size - 16) (by kernel_rfl) (by omega) _ rfl) w) <| qV M 5 26 (.string s) <| qV M 6 27 (.string s) <| qV M 7 28 (.int .i64 (s.size : Int)) ?_
 refine qH M 8 29 (.int .i64 ((s.size - 16 : Nat) : Int)) (fun w _ => (fun w => Eq.trans (b := .ok (.value (.int .i64 (IntKind.wrap .i64 ((s.size : Int) - 16)))) w) (by kernel_rfl) (by rw [wrap64 (by omega) (by omega)]; congr 3 <;> omega)) w) ?_
 refine qH M 9 30 (.string (s.extract (s.size - 16) s.size)) (fun w _ => (run_strl 9 Tryz.underlying9 _ _ rfl s (by kernel_rfl) .i64 (s.size - 16) (by kernel_rfl) (by omega) _ rfl) w) <| qV M 10 11 (.string (s.extract 0 (s.size - 16))) <| qZ ?_
 refine rV 1 <| nT <| au_then <| wp_seq <| sR <| rV 4 <| ZC M 35 (fun w M => c_tagOf key nonce ad (s.extract 0 (s.size - 16)) (sf_zero h).1 (by have := sf_zero h; rw [cx_size]; omega) w M.laid) fun u3 M => rV 1 ?_
 refine pC M 37 81 #[.string (tgX key nonce ad s), .string (s.extract (s.size - 16) s.size)] (.bool true) (fun w M => (by rw [← decide_eq_true e]; exact Pol.c_same _ _ (by show (tgO key nonce ad (s.extract 0 (s.size - 16))).size ≤ _; rw [tgO_size]; decide) w M.laid)) fun u4 M => ?_
 refine rV 1 <| nT <| cF <| wp_skip <| au_then <| sR <| rV 3 <| ZC M 42 (fun w M => c_Turn1 key nonce (s.extract 0 (s.size - 16)) (sf_zero h).1 (by have := sf_zero h; rw [cx_size]; omega) w M.laid) fun u5 M => rV 4 <| nT <| wp_ret ?_
 exact b1 M
theorem c_OpenB (key nonce ad s : Yb) (h : sf key nonce ad s 16 = 0) (e : tgX key nonce ad s ≠ s.extract (s.size - 16) s.size) (w : World) (hL : Laid w)  : Cs 54 #[.string key, .string nonce, .string ad, .string s] w (.tuple #[.string ⟨#[]⟩, .int .i64 100]) := by
 go_enter Tryz.func54, Tryz.ntmps54
 have M := Mem.start hL
 have hs16 : 16 ≤ s.size := (sf_zero h).2.2.2
 have hs17 : s.size ≤ 65536 + 16 := (sf_zero h).2.2.1
 refine sq <| wp_seq <| sR <| rV 4 <| ZC M 17 (fun w M => c_fault key nonce ad s 16 (by decide) w M.laid) fun u1 M => rV 1 <| nT <| sR <| rV 1 <| wD 19 h <| nT <| cF <| wp_skip <| au_then <| wp_seq <| rgh M [] 11 fun u2 M => ?_
 refine qV M 0 21 (.string s) <| qV M 1 22 (.string s) <| qV M 2 23 (.int .i64 (s.size : Int)) ?_
 refine qH M 3 24 (.int .i64 ((s.size - 16 : Nat) : Int)) (fun w _ => (fun w => Eq.trans (b := .ok (.value (.int .i64 (IntKind.wrap .i64 ((s.size : Int) - 16)))) w) (by kernel_rfl) (by rw [wrap64 (by omega) (by omega)]; congr 3 <;> omega)) w) ?_
 refine qH M 4 25 (.string (s.extract 0 (s.size - 16))) (fun w _ => (run_strh 9 Tryz.underlying9 _ _ rfl s (by kernel_rfl) .i64 (s.size - 16) (by kernel_rfl) (by omega) _ rfl) w) <| qV M 5 26 (.string s) <| qV M 6 27 (.string s) <| qV M 7 28 (.int .i64 (s.size : Int)) ?_
 refine qH M 8 29 (.int .i64 ((s.size - 16 : Nat) : Int)) (fun w _ => (fun w => Eq.trans (b := .ok (.value (.int .i64 (IntKind.wrap .i64 ((s.size : Int) - 16)))) w) (by kernel_rfl) (by rw [wrap64 (by omega) (by omega)]; congr 3 <;> omega)) w) ?_
 refine qH M 9 30 (.string (s.extract (s.size - 16) s.size)) (fun w _ => (run_strl 9 Tryz.underlying9 _ _ rfl s (by kernel_rfl) .i64 (s.size - 16) (by kernel_rfl) (by omega) _ rfl) w) <| qV M 10 11 (.string (s.extract 0 (s.size - 16))) <| qZ ?_
 refine rV 1 <| nT <| au_then <| wp_seq <| sR <| rV 4 <| ZC M 35 (fun w M => c_tagOf key nonce ad (s.extract 0 (s.size - 16)) (sf_zero h).1 (by have := sf_zero h; rw [cx_size]; omega) w M.laid) fun u3 M => rV 1 ?_
 refine pC M 37 81 #[.string (tgX key nonce ad s), .string (s.extract (s.size - 16) s.size)] (.bool false) (fun w M => (by rw [← decide_eq_false e]; exact Pol.c_same _ _ (by show (tgO key nonce ad (s.extract 0 (s.size - 16))).size ≤ _; rw [tgO_size]; decide) w M.laid)) fun u4 M => ?_
 refine rV 1 <| nT <| cT <| sq <| wp_ret <| au_then_ret ?_
 exact b1 M
open Go.RowKit
theorem zB_list (n : Nat) : (zB n).data.toList = List.replicate n 0 := by
 unfold zB bs
 simp only [List.map_map]
 apply List.ext_getElem?
 intro i
 by_cases h : i < n
 ·simp [h]
 ·rw [List.getElem?_eq_none (by simp; omega), List.getElem?_eq_none (by simp; omega)]
theorem pn_shift (a b : Nat) (h : a % 16 = 0) : pn (a + b) = pn b := by
 unfold pn
 omega
def q1 (ad : Yb) : ByteArray := ad ++ zB (pn ad.size)
def q2 (ad c : Yb) : ByteArray := q1 ad ++ c
def q3 (ad c : Yb) : ByteArray := q2 ad c ++ zB (pn c.size)
def q4 (ad c : Yb) : ByteArray := q3 ad c ++ wS (ad.size : Int)
theorem q1_size (ad : Yb) : (q1 ad).size = ad.size + pn ad.size := by
 unfold q1
 rw [ByteArray.size_append, zB_size]
theorem q2_size (ad c : Yb) : (q2 ad c).size = ad.size + pn ad.size + c.size := by
 unfold q2
 rw [ByteArray.size_append, q1_size]
theorem q3_size (ad c : Yb) : (q3 ad c).size = ad.size + pn ad.size + c.size + pn c.size := by
 unfold q3
 rw [ByteArray.size_append, q2_size, zB_size]
theorem q4_size (ad c : Yb) : (q4 ad c).size = ad.size + pn ad.size + c.size + pn c.size + 8 := by
 unfold q4
 rw [ByteArray.size_append, q3_size, wS_size]
theorem jn_eq (ad c : Yb) : q4 ad c ++ wS (c.size : Int) = jn ad c := by
 apply ByteArray.ext
 apply Array.ext'
 show _ = j2 ad c ++ m2 ad c
 unfold q4 q3 q2 q1 j2 m2 m1 j1c j1
 rw [pn_shift _ _ (pn_sum ad.size)]
 simp only [ByteArray.data_append, Array.toList_append, zB_list, List.append_assoc]
theorem dotk (key nonce : Yb) (hm : key.size = 32 ∧ nonce.size = 12) : (dbk key nonce 0).extract 0 32 = otk key nonce := by
 unfold otk
 rw [blk_dbk key nonce 0 hm.1 hm.2 (by decide) (by decide)]
theorem d_Turn1 (key nonce s : Yb) (hm : key.size = 32 ∧ nonce.size = 12) (hz : s.size ≤ 65536) (w : World) (hL : Laid w) : Cs 78 #[.string key, .string nonce, .int .u32 1, .string s] w (.tuple #[.string (tn key nonce s), .int .i64 0]) := by
 unfold tn
 rw [oS_dT key nonce 1 s hm.1 hm.2 (by decide) (by decide)]
 exact d_TurnA key nonce 1 (by decide) s (by omega) hm (by omega) w hL
theorem d_tag (key nonce ad c : Yb) (hm : key.size = 32 ∧ nonce.size = 12) (hz : ad.size + c.size ≤ 150000) (w : World) (hL : Laid w)  : Cs 79 #[.string key, .string nonce, .string ad, .string c] w (.string (tgO key nonce ad c)) := by
 go_enter Tryz.func79, Tryz.ntmps79
 have M := Mem.start hL
 refine sq <| wp_seq <| rgh M [] 28 fun u1 M => qV M 0 12 (.string key) <| qV M 1 13 (.string nonce) <| qV M 4 16 (.string ad) <| qV M 5 17 (.string ad) <| qV M 8 20 (.string c) <| qV M 10 22 (.string c) <| qV M 13 25 (.string ad) <| qV M 14 26 (.int .i64 (ad.size : Int)) <| qH M 15 27 (.int .u64 (ad.size : Int)) (fun w _ => (fun w => Eq.trans (b := .ok (.value (.int .u64 (cv .u64 (ad.size : Int)))) w) (by kernel_rfl) (by rw [cvu64 _ (by omega)])) w) <| qV M 18 30 (.string c) <| qV M 19 31 (.int .i64 (c.size : Int)) <| qH M 20 32 (.int .u64 (c.size : Int)) (fun w _ => (fun w => Eq.trans (b := .ok (.value (.int .u64 (cv .u64 (c.size : Int)))) w) (by kernel_rfl) (by rw [cvu64 _ (by omega)])) w) <| qO 2 ?_
 refine ZC M 14 (fun w M => d_Block key nonce 0 hm.1 hm.2 w M.laid) fun u2 M => nT ?_
 refine ⟨M, ?_⟩
 refine qH M 3 15 (.string (otk key nonce)) (fun w _ => (run_strh 9 Tryz.underlying9 _ _ rfl (dbk key nonce 0) (by kernel_rfl) .i64 32 (by kernel_rfl) (by rw [dbk_size]; decide) _ (dotk key nonce hm)) w) <| qO 6 ?_
 refine ZC M 18 (fun w M => d_pad ad w M.laid) fun u3 M => nT ?_
 refine ⟨M, ?_⟩
 refine qH M 7 19 (.string (q1 ad)) (fun w _ => (run_cat 9 9 _ _ rfl ad (zB (pn ad.size)) (by kernel_rfl) (by kernel_rfl) (by rw [zB_size]; have hpa := pn_lt ad.size; have hpc := pn_lt c.size; omega)) w) <| qH M 9 21 (.string (q2 ad c)) (fun w _ => (run_cat 9 9 _ _ rfl (q1 ad) c (by kernel_rfl) (by kernel_rfl) (by rw [q1_size]; have hpa := pn_lt ad.size; have hpc := pn_lt c.size; omega)) w) <| qO 11 ?_
 refine ZC M 23 (fun w M => d_pad c w M.laid) fun u4 M => nT ?_
 refine ⟨M, ?_⟩
 refine qH M 12 24 (.string (q3 ad c)) (fun w _ => (run_cat 9 9 _ _ rfl (q2 ad c) (zB (pn c.size)) (by kernel_rfl) (by kernel_rfl) (by rw [q2_size, zB_size]; have hpa := pn_lt ad.size; have hpc := pn_lt c.size; omega)) w) <| qO 16 ?_
 refine pC M 28 80 #[.int .u64 (ad.size : Int)] (.string (wS (ad.size : Int))) (fun w M => d_eight _ w M.laid) fun u5 M => nT ?_
 refine ⟨M, ?_⟩
 refine qH M 17 29 (.string (q4 ad c)) (fun w _ => (run_cat 9 9 _ _ rfl (q3 ad c) (wS (ad.size : Int)) (by kernel_rfl) (by kernel_rfl) (by rw [q3_size, wS_size]; have hpa := pn_lt ad.size; have hpc := pn_lt c.size; omega)) w) <| qO 21 ?_
 refine pC M 33 80 #[.int .u64 (c.size : Int)] (.string (wS (c.size : Int))) (fun w M => d_eight _ w M.laid) fun u6 M => nT ?_
 refine ⟨M, ?_⟩
 refine qH M 22 34 (.string (jn ad c)) (fun w _ => (fun w => Eq.trans (run_cat 9 9 _ _ rfl (q4 ad c) (wS (c.size : Int)) (by kernel_rfl) (by kernel_rfl) (by rw [q4_size, wS_size]; have hpa := pn_lt ad.size; have hpc := pn_lt c.size; omega) w) (by rw [jn_eq])) w) <| qO 23 ?_
 refine pC M 35 109 #[.string (otk key nonce), .string (jn ad c)] (.tuple #[.string (tgO key nonce ad c), .int .i64 0]) (fun w M => Pol.d_Tag _ _ (otk_size key nonce) (by have := jn_size ad c; omega) w M.laid) fun u7 M => nT ?_
 refine ⟨M, ?_⟩
 refine qV M 24 11 (.tuple #[.string (tgO key nonce ad c), .int .i64 0]) <| qV M 25 36 (.string (tgO key nonce ad c)) <| qV M 26 37 (.int .i64 0) <| qV M 27 9 (.string (tgO key nonce ad c)) <| qZ ?_
 refine rV 1 <| nT <| au_then <| sq <| wp_ret ?_
 exact b1 M
theorem d_SealA (key nonce ad s : Yb) (hm : key.size = 32 ∧ nonce.size = 12) (hz : ad.size + s.size ≤ 5000)  (w : World) (hL : Laid w)  : Cs 52 #[.string key, .string nonce, .string ad, .string s] w (.tuple #[.string (sealS key nonce ad s), .int .i64 0]) := by
 go_enter Tryz.func52, Tryz.ntmps52
 have M := Mem.start hL
 refine sq <| wp_seq <| sR <| rV 2 <| pC M 14 77 #[.string key, .string nonce] (.bool true) (fun w M => (by rw [← decide_eq_true hm]; exact d_may key nonce w M.laid)) fun u1 M => rV 1 <| nT <| cF <| wp_skip <| au_then <| wp_seq <| sR <| rV 2 <| ZF 18 ((65536 : Int) < (ad.size : Int)) <| rV 3 <| ZF 22 ((65536 : Int) < (s.size : Int)) ?_
 refine rV 1 <| nT <| cF <| wp_skip <| au_then <| sR <| rV 3 <| ZC M 28 (fun w M => d_Turn1 key nonce s hm (by omega) w M.laid) fun u2 M => rV 5 <| nT <| sR <| rV 5 <| ZC M 36 (fun w M => d_tag key nonce ad (tn key nonce s) hm (by rw [tn_size]; omega) w M.laid) fun u3 M => pH 37 (.string (sealS key nonce ad s)) (run_cat 9 9 _ _ rfl (tn key nonce s) (tgO key nonce ad (tn key nonce s)) (by kernel_rfl) (by kernel_rfl) (by rw [tn_size, tgO_size]; omega)) <| rV 2 <| nT ?_
 refine wp_ret ?_
 exact b1 M
theorem d_OpenA (key nonce ad s : Yb) (hm : key.size = 32 ∧ nonce.size = 12) (hz : ad.size + s.size ≤ 5000) (h : ¬ s.size < 16) (e : tgX key nonce ad s = s.extract (s.size - 16) s.size) (w : World) (hL : Laid w)  : Cs 55 #[.string key, .string nonce, .string ad, .string s] w (.tuple #[.string (opS key nonce s), .int .i64 0]) := by
 go_enter Tryz.func55, Tryz.ntmps55
 have M := Mem.start hL
 refine sq <| wp_seq <| sR <| rV 2 <| pC M 15 77 #[.string key, .string nonce] (.bool true) (fun w M => (by rw [← decide_eq_true hm]; exact d_may key nonce w M.laid)) fun u1 M => rV 1 <| nT <| cF <| wp_skip <| au_then <| wp_seq <| sR <| rV 2 <| ZF 19 ((65536 : Int) < (ad.size : Int)) <| rV 3 <| ZF 23 ((65552 : Int) < (s.size : Int)) ?_
 refine rV 1 <| nT <| cF <| wp_skip <| au_then <| wp_seq <| sR <| rV 2 <| ZF 27 ((s.size : Int) < 16) <| nT <| cF <| wp_skip <| au_then <| sR <| rV 3 <| ZI 31 ((s.size : Int) - 16) ((s.size - 16 : Nat) : Int) ?_
 refine pH 32 (.string (s.extract 0 (s.size - 16))) (run_strh 9 Tryz.underlying9 _ _ rfl s (by kernel_rfl) .i64 (s.size - 16) (by kernel_rfl) (by omega) _ rfl) <| rV 1 <| nT <| wp_seq <| wp_seq <| rgh M [] 10 fun u2 M => qV M 0 33 (.string key) <| qV M 1 34 (.string nonce) <| qV M 2 35 (.string ad) <| qV M 3 36 (.string (s.extract 0 (s.size - 16))) <| qV M 5 38 (.string s) <| qV M 6 39 (.string s) <| qV M 7 40 (.int .i64 (s.size : Int)) ?_
 refine qH M 8 41 (.int .i64 ((s.size - 16 : Nat) : Int)) (fun w _ => (fun w => Eq.trans (b := .ok (.value (.int .i64 (IntKind.wrap .i64 ((s.size : Int) - 16)))) w) (by kernel_rfl) (by rw [wrap64 (by omega) (by omega)]; congr 3 <;> omega)) w) ?_
 refine qH M 9 42 (.string (s.extract (s.size - 16) s.size)) (fun w _ => (run_strl 9 Tryz.underlying9 _ _ rfl s (by kernel_rfl) .i64 (s.size - 16) (by kernel_rfl) (by omega) _ rfl) w) <| qO 4 ?_
 refine ZC M 37 (fun w M => d_tag key nonce ad (s.extract 0 (s.size - 16)) hm (by rw [cx_size]; omega) w M.laid) fun u3 M => nT ?_
 refine ⟨M, ?_⟩
 refine qZ ?_
 refine zJ 43 (.bool false) (.bool (!((tgX key nonce ad s).toList == (s.extract (s.size - 16) s.size).toList))) (by rw [e, beq_self_eq_true]; rfl) <| nT <| au_then <| cF <| wp_skip <| au_then <| sR <| rV 3 <| ZC M 48 (fun w M => d_Turn1 key nonce (s.extract 0 (s.size - 16)) hm (by rw [cx_size]; omega) w M.laid) fun u4 M => rV 5 <| nT <| sq <| wp_ret ?_
 exact b1 M
theorem d_OpenB (key nonce ad s : Yb) (hm : key.size = 32 ∧ nonce.size = 12) (hz : ad.size + s.size ≤ 5000) (h : ¬ s.size < 16) (e : tgX key nonce ad s ≠ s.extract (s.size - 16) s.size) (w : World) (hL : Laid w)  : Cs 55 #[.string key, .string nonce, .string ad, .string s] w (.tuple #[.string ⟨#[]⟩, .int .i64 100]) := by
 go_enter Tryz.func55, Tryz.ntmps55
 have M := Mem.start hL
 refine sq <| wp_seq <| sR <| rV 2 <| pC M 15 77 #[.string key, .string nonce] (.bool true) (fun w M => (by rw [← decide_eq_true hm]; exact d_may key nonce w M.laid)) fun u1 M => rV 1 <| nT <| cF <| wp_skip <| au_then <| wp_seq <| sR <| rV 2 <| ZF 19 ((65536 : Int) < (ad.size : Int)) <| rV 3 <| ZF 23 ((65552 : Int) < (s.size : Int)) ?_
 refine rV 1 <| nT <| cF <| wp_skip <| au_then <| wp_seq <| sR <| rV 2 <| ZF 27 ((s.size : Int) < 16) <| nT <| cF <| wp_skip <| au_then <| sR <| rV 3 <| ZI 31 ((s.size : Int) - 16) ((s.size - 16 : Nat) : Int) ?_
 refine pH 32 (.string (s.extract 0 (s.size - 16))) (run_strh 9 Tryz.underlying9 _ _ rfl s (by kernel_rfl) .i64 (s.size - 16) (by kernel_rfl) (by omega) _ rfl) <| rV 1 <| nT <| wp_seq <| wp_seq <| rgh M [] 10 fun u2 M => qV M 0 33 (.string key) <| qV M 1 34 (.string nonce) <| qV M 2 35 (.string ad) <| qV M 3 36 (.string (s.extract 0 (s.size - 16))) <| qV M 5 38 (.string s) <| qV M 6 39 (.string s) <| qV M 7 40 (.int .i64 (s.size : Int)) ?_
 refine qH M 8 41 (.int .i64 ((s.size - 16 : Nat) : Int)) (fun w _ => (fun w => Eq.trans (b := .ok (.value (.int .i64 (IntKind.wrap .i64 ((s.size : Int) - 16)))) w) (by kernel_rfl) (by rw [wrap64 (by omega) (by omega)]; congr 3 <;> omega)) w) ?_
 refine qH M 9 42 (.string (s.extract (s.size - 16) s.size)) (fun w _ => (run_strl 9 Tryz.underlying9 _ _ rfl s (by kernel_rfl) .i64 (s.size - 16) (by kernel_rfl) (by omega) _ rfl) w) <| qO 4 ?_
 refine ZC M 37 (fun w M => d_tag key nonce ad (s.extract 0 (s.size - 16)) hm (by rw [cx_size]; omega) w M.laid) fun u3 M => nT ?_
 refine ⟨M, ?_⟩
 refine qZ ?_
 refine zJ 43 (.bool true) (.bool (!((tgX key nonce ad s).toList == (s.extract (s.size - 16) s.size).toList))) (by rw [Pol.toList_ne e]; rfl) <| nT <| au_then <| cT <| sq <| wp_ret <| au_then_ret ?_
 exact b1 M
open Go.RowKit
theorem xb_xb (x k : Int) (h0 : 0 ≤ x) (h1 : x < 256) : xb (xb x k) k = x := by
 obtain ⟨a, rfl⟩ : ∃ a : Nat, x = (a : Int) := ⟨x.toNat, by omega⟩
 have hw : ∀ b : BitVec 8, IntKind.wrap .u8 (b.toNat : Int) = (b.toNat : Int) := fun b => by
  have := b.isLt
  simp [IntKind.wrap, IntKind.signed, IntKind.bits]
  omega
 have ho : ∀ b : BitVec 8, BitVec.ofInt 8 (b.toNat : Int) = b := fun b => by
  apply BitVec.eq_of_toNat_eq
  rw [BitVec.toNat_ofInt]
  have := b.isLt
  omega
 unfold xb
 rw [hw, hw, ho, BitVec.xor_assoc, BitVec.xor_self, BitVec.xor_zero, BitVec.toNat_ofInt]
 omega
theorem bt_oS (f : NI) (s : Yb) (i : Nat) (h : i < s.size) : bt (oS f s) i = ob f s i := by
 rw [oS_bs, bt_bs _ (fun x hx => by obtain ⟨j, _, rfl⟩ := List.mem_map.1 hx; exact ob_nn f s j), List.getD_eq_getElem?_getD, List.getElem?_map, List.getElem?_range h]
 rfl
theorem sb_map (s : Yb) : sb s = (List.range s.size).map (bt s) := by
 rw [dl_zero s (bt s)]
 exact List.map_congr_left fun i _ => if_neg (by omega)
theorem oS_oS (f : NI) (s : Yb) : oS f (oS f s) = s := by
 rw [oS_bs, oS_size]
 have e : (List.range s.size).map (ob f (oS f s)) = (List.range s.size).map (bt s) := List.map_congr_left fun i hi => by
  have hb := bt_nn s i
  show xb (bt (oS f s) i) (bl (sw f (i / 64)) (i % 64)) = _
  rw [bt_oS f s i (List.mem_range.1 hi)]
  exact xb_xb _ _ hb.1 hb.2
 rw [e, ← sb_map, bs_sb]
theorem ext_left (a b : Yb) : (a ++ b).extract 0 a.size = a := by
 apply ByteArray.ext
 rw [ByteArray.data_extract, ByteArray.data_append]
 show (a.data ++ b.data).extract 0 a.data.size = a.data
 rw [Array.extract_append]
 simp
theorem ext_right (a b : Yb) : (a ++ b).extract a.size (a ++ b).size = b := by
 apply ByteArray.ext
 rw [ByteArray.data_extract, ByteArray.data_append, ByteArray.size_append]
 show (a.data ++ b.data).extract a.data.size (a.data.size + b.data.size) = b.data
 rw [Array.extract_append, Array.extract_empty_of_size_le_start (Nat.le_refl _), Array.empty_append, Nat.sub_self, Nat.add_sub_cancel_left]
 exact Array.extract_size
theorem seal_cx (key nonce ad s : Yb) : (sealS key nonce ad s).extract 0 ((sealS key nonce ad s).size - 16) = tn key nonce s := by
 have h : (sealS key nonce ad s).size - 16 = (tn key nonce s).size := by
  rw [sealS_size, tn_size]
  omega
 rw [h]
 exact ext_left _ _
theorem seal_tx (key nonce ad s : Yb) : (sealS key nonce ad s).extract ((sealS key nonce ad s).size - 16) (sealS key nonce ad s).size = tgO key nonce ad (tn key nonce s) := by
 have h : (sealS key nonce ad s).size - 16 = (tn key nonce s).size := by
  rw [sealS_size, tn_size]
  omega
 rw [h]
 exact ext_right _ _
theorem seal_tg (key nonce ad s : Yb) : tgX key nonce ad (sealS key nonce ad s) = (sealS key nonce ad s).extract ((sealS key nonce ad s).size - 16) (sealS key nonce ad s).size := by
 unfold tgX
 rw [seal_cx, seal_tx]
theorem seal_op (key nonce ad s : Yb) : opS key nonce (sealS key nonce ad s) = s := by
 unfold opS
 rw [seal_cx]
 exact oS_oS _ _
end Go.Proofs.YtffimigpbcilbaaGreatDoor
