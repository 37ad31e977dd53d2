/- Part 2 of the walks and facts. -/
import Derived.Test.YtiahdbibeleakaaGreatDoorCt1
import Derived.Lib.FrozenHead2
import Derived.Shelf.Abstract
set_option maxHeartbeats 16000000
set_option maxRecDepth 100000
set_option linter.unusedSimpArgs false
set_option linter.unusedVariables false
namespace Go.Proofs.YtiahdbibeleakaaGreatDoor
open Go.RowKit
theorem cvu64 (n : Nat) (h : n < 1000000000000) : cv .u64 (n : Int) = (n : Int) := by
 unfold cv
 simp [IntKind.wrap, IntKind.signed, IntKind.bits]
 omega
theorem wu64 (n : Nat) (h : n < 1000000000000) : IntKind.wrap .u64 (n : Int) = (n : Int) := cvu64 n h
theorem quoU (n : Nat) (h : n < 1000000000000) : IntKind.wrap .u64 ((n : Int).tdiv 64) = ((n / 64 : Nat) : Int) := by
 rw [Int.tdiv_eq_ediv_of_nonneg (by omega), show ((n : Int) / 64) = ((n / 64 : Nat) : Int) by omega, wu64 _ (by omega)]
theorem bl_nn (f : NI) (i : Nat) : 0 ≤ bl f i ∧ bl f i < 256 := by
 unfold bl cv
 simp [IntKind.wrap, IntKind.signed, IntKind.bits]
 omega
def blk (f : NI) : ByteArray := bs ((List.range 64).map (bl f))
theorem blk_size (f : NI) : (blk f).size = 64 := by
 unfold blk
 rw [bs_size]
 simp
theorem blk_nn (f : NI) : ∀ x ∈ (List.range 64).map (bl f), 0 ≤ x ∧ x < 256 := fun x hx => by
 obtain ⟨i, _, rfl⟩ := List.mem_map.1 hx
 exact bl_nn f i
def strE : ByteArray := ⟨#[]⟩
theorem c_areA (key nonce : Yb) (hk : key.size = 32) (hn : nonce.size = 12) (w : World) (hL : Laid w)  : Cs 99 #[.string key, .string nonce] w (.bool true) := by
 go_enter Tryz.func99, Tryz.ntmps99
 have M := Mem.start hL
 refine sq <| sR <| rV 2 ?_
 refine ZT 7 ((key.size : Int) = 32) ?_
 refine rV 3 ?_
 refine ZT 11 ((nonce.size : Int) = 12) ?_
 refine rV 2 <| nT <| wp_ret ?_
 exact b1 M
theorem c_areB (key nonce : Yb) (hk : key.size = 32) (hn : nonce.size ≠ 12) (w : World) (hL : Laid w)  : Cs 99 #[.string key, .string nonce] w (.bool false) := by
 go_enter Tryz.func99, Tryz.ntmps99
 have M := Mem.start hL
 refine sq <| sR <| rV 2 ?_
 refine ZT 7 ((key.size : Int) = 32) ?_
 refine rV 3 ?_
 refine ZF 11 ((nonce.size : Int) = 12) ?_
 refine rV 2 <| nT <| wp_ret ?_
 exact b1 M
theorem c_areC (key nonce : Yb) (hk : key.size ≠ 32) (w : World) (hL : Laid w)  : Cs 99 #[.string key, .string nonce] w (.bool false) := by
 go_enter Tryz.func99, Tryz.ntmps99
 have M := Mem.start hL
 refine sq <| sR <| rV 2 ?_
 refine ZF 7 ((key.size : Int) = 32) ?_
 refine rV 6 <| nT <| wp_ret ?_
 exact b1 M
theorem c_are (key nonce : Yb) (w : World) (hL : Laid w) : Calls Tryz.prog 99 #[.string key, .string nonce] w fun r w' => r = .returned (.bool (decide (key.size = 32 ∧ nonce.size = 12))) ∧ Below w.heap.size w w' := by
 by_cases hk : key.size = 32
 ·by_cases hn : nonce.size = 12
  ·rw [decide_eq_true ⟨hk, hn⟩]
   exact c_areA key nonce hk hn w hL
  ·rw [decide_eq_false (fun h => hn h.2)]
   exact c_areB key nonce hk hn w hL
 ·rw [decide_eq_false (fun h => hk h.1)]
  exact c_areC key nonce hk w hL
theorem c_need (s : Yb) (hz : s.size ≤ 200000) (w : World) (hL : Laid w)  : Cs 100 #[.string s] w (.int .u64 (((s.size + 63) / 64 : Nat) : Int)) := by
 go_enter Tryz.func100, Tryz.ntmps100
 have M := Mem.start hL
 refine sq <| sR <| rV 2 ?_
 refine ZQ 5 .u64 (cv .u64 (s.size : Int)) (cvu64 _ (by omega)) ?_
 refine zJ 6 (.int .u64 ((s.size + 64 : Nat) : Int)) (.int .u64 (IntKind.wrap .u64 ((s.size : Int) + 64))) (by rw [show (s.size : Int) + 64 = ((s.size + 64 : Nat) : Int) by omega, wu64 _ (by omega)]) ?_
 refine zJ 7 (.int .u64 ((s.size + 63 : Nat) : Int)) (.int .u64 (IntKind.wrap .u64 (((s.size + 64 : Nat) : Int) - 1))) (by rw [show ((s.size + 64 : Nat) : Int) - 1 = ((s.size + 63 : Nat) : Int) by omega, wu64 _ (by omega)]) ?_
 refine ZQ 8 .u64 (IntKind.wrap .u64 (((s.size + 63 : Nat) : Int).tdiv 64)) (quoU _ (by omega)) ?_
 refine rV 1 <| nT <| wp_ret ?_
 exact b1 M
theorem c_BlockA (key nonce : Yb) (n : Int) (hm : (key.size = 32 ∧ nonce.size = 12)) (w : World) (hL : Laid w)  : Cs 103 #[.string key, .string nonce, .int .u32 n] w (.tuple #[.string (blk (fw key nonce n)), .int .i64 0]) := by
 go_enter Tryz.func103, Tryz.ntmps103
 have M := Mem.start hL
 refine sq <| wp_seq <| sR <| rV 2 ?_
 refine pC M 11 99 #[.string key, .string nonce] (.bool true) (fun w M => (by rw [← decide_eq_true hm]; exact c_are key nonce w M.laid)) fun u1 M => ?_
 refine rV 1 <| nT <| cF <| wp_skip <| au_then ?_
 refine sR <| rV 3 ?_
 refine ZC M 16 (fun w M => c_first key nonce n hm.1 hm.2 w M.laid) fun u2 M => ?_
 refine ZC M 17 (fun w M => c_block (fw key nonce n) w M.laid) fun u3 M => ?_
 refine pN M 8 (.cells (av 64 (w8 (fun _ => 0))) 176) fun g1 u4 M => ?_
 refine ZG M 0 64 (w8 (bl (fw key nonce n))) fun u5 M => ?_
 refine nT <| sR <| rV 1 ?_
 refine pl_back M (want_no rfl) (some 19) rfl _ rfl 0 g1 64 64 (by kernel_rfl) _ rfl ((List.range 64).map (bl (fw key nonce n))) 64 (sb_av 64 _ _) (by simp) (blk_nn _) ?_
 refine rV 2 <| nT <| wp_ret ?_
 exact b1 M
theorem c_TurnA (key nonce : Yb) (n : Nat) (hn : n < 4294967296) (s : Yb) (hz : s.size ≤ 200000) (hm : (key.size = 32 ∧ nonce.size = 12)) (hl : ¬ (4294967296 < n + (s.size + 63) / 64)) (w : World) (hL : Laid w)  : Cs 70 #[.string key, .string nonce, .int .u32 (n : Int), .string s] w (.tuple #[.string (oS (fw key nonce (n : Int)) s), .int .i64 0]) := by
 go_enter Tryz.func70, Tryz.ntmps70
 have M := Mem.start hL
 refine sq <| wp_seq <| sR <| rV 2 ?_
 refine pC M 12 99 #[.string key, .string nonce] (.bool true) (fun w M => (by rw [← decide_eq_true hm]; exact c_are key nonce w M.laid)) fun u1 M => ?_
 refine rV 1 <| nT <| cF <| wp_skip <| au_then ?_
 refine wp_seq <| sR <| rV 1 ?_
 refine ZQ 15 .u64 (cv .u64 (n : Int)) (cvu64 _ (by omega)) ?_
 refine rV 1 ?_
 refine ZC M 17 (fun w M => c_need s hz w M.laid) fun u2 M => ?_
 refine zJ 18 (.int .u64 ((n + (s.size + 63) / 64 : Nat) : Int)) (.int .u64 (IntKind.wrap .u64 ((n : Int) + (((s.size + 63) / 64 : Nat) : Int)))) (by rw [show (n : Int) + (((s.size + 63) / 64 : Nat) : Int) = ((n + (s.size + 63) / 64 : Nat) : Int) by omega, wu64 _ (by omega)]) ?_
 refine ZF 19 ((4294967296 : Int) < ((n + (s.size + 63) / 64 : Nat) : Int)) ?_
 refine nT <| cF <| wp_skip <| au_then <| sR ?_
 refine rV 4 ?_
 refine ZC M 24 (fun w M => c_first key nonce (n : Int) hm.1 hm.2 w M.laid) fun u3 M => ?_
 refine ZC M 25 (fun w M => c_turned s (fw key nonce (n : Int)) hz w M.laid) fun u4 M => ?_
 refine rV 2 <| nT <| wp_ret ?_
 exact b1 M
open Go.RowKit
section
variable {P : Program} {ops : Array Oper} {rest : List Oper} {o : Oper} {a : Act} {w : World} {c : Ctx} {L : List Blk} {Q : Exit → Act → World → Prop}
theorem SB.put {Z : Obj} {cap : Nat} {l : List Value} (h : SB Z cap l) {i : Nat} (hi : i < l.length) (v : Value) {W : World} {g : Nat} (hz : W.heap[g]? = some Z) : ∃ Z', (W.setCell ⟨g, i, none⟩ v).heap[g]? = some Z' ∧ SB Z' cap (l.set i v) := by
 obtain ⟨cs, T, fr, rfl, h1, h2, h3, h4⟩ := h.ex
 refine ⟨.cells (cs.setIfInBounds i v) T fr, ?_, ⟨_, T, fr, rfl, by simpa using h1, by simpa using h2, fun j hj => ?_, h4⟩⟩
 ·simp [World.setCell, Array.getElem?_modify, hz]
 ·rw [List.length_set] at hj
  rw [Array.getElem?_setIfInBounds, List.getElem?_set]
  by_cases e : i = j
  ·subst e
   rw [if_pos rfl, if_pos rfl, if_pos (by omega), if_pos hi]
  ·rw [if_neg e, if_neg e, h3 j hj]
theorem SB.free {Z : Obj} {cap : Nat} {l : List Value} (h : SB Z cap l) {i : Nat} (hi : i < l.length) {W : World} {g : Nat} (hz : W.heap[g]? = some Z) : W.frozen? ⟨g, i, none⟩ = false := by
 obtain ⟨cs, T, fr, rfl, h1, h2, h3, h4⟩ := h.ex
 unfold World.frozen?
 rw [hz]
 exact h4 i (by omega)
theorem pl_putS (M : Mem c L w) (hw : Region.wanted o (yielded ops a.tmps) = true) (hd : o.dst = none) (ty : TypeId) (x y : Operand) (ho : o.op = .store ty x y) (i g off : Nat) (hx : a.eval x = .pointer (some ⟨g, off, none⟩)) (Z : Obj) (hi : L[i]? = some ⟨g, Z⟩) (cap : Nat) (l : List Value) (hs : SB Z cap l) (hk : off < l.length) (v : Value)
  (hy : a.eval y = v) (hz : (P.info? ty).map (·.size) = some 1) (h1 : v.oneCell' = true) (hc : v.cells = #[v])
  (h : ∀ Z' w', SB Z' cap (l.set off v) → Mem c (L.set i ⟨g, Z'⟩) w' → PL P ops Q rest a w') : PL P ops Q (o :: rest) a w := by
 have R := M.get i hi
 obtain ⟨Z', h2, h3⟩ := hs.put hk v R
 have h4 := h Z' (w.setCell ⟨g, off, none⟩ v) h3 (M.put i ⟨g, _⟩ hi _ (grown_setCell w g off v) h2)
 have hcell : w.cell? ⟨g, off, none⟩ = some l[off] := hs.cell R (List.getElem?_eq_getElem hk)
 have hrun : (Instr.storeAt ty (.pointer (some ⟨g, off, none⟩)) v).run P w = .ok () (w.setCell ⟨g, off, none⟩ v) := by
  cases hq : P.info? ty with
  | none => simp [hq] at hz
  | some t =>
   have ht : t.size = 1 := by simpa [hq] using hz
   have hcc := run_storeCells_cells (P := P) g off [v] 0 w (by intro j hj; simp at hj; subst hj; simp [hcell]) (by intro j hj; simp at hj; subst hj; simpa using hs.free hk R) (by simpa using h1)
   simp only [Nat.add_zero, World.setCells] at hcc
   simp [Instr.storeAt, Instr.sureAddr, storeVar, sizeOf, typeInfo, hq, ht, hc, hcc]
 refine ⟨Go.BigFrame.wpList_want hw fun K hK => ?_⟩
 unfold Oper.wp execOp
 simp only [ho, hx, hy, Sem.run_bind, hrun, Result.andThen_ok, Sem.run_pure]
 show K (a.put o.dst undef) _
 rw [hd]
 exact hK _ _ h4.out
end
theorem cv8_nn (x : Int) : 0 ≤ cv .u8 x ∧ cv .u8 x < 256 := by
 unfold cv
 simp [IntKind.wrap, IntKind.signed, IntKind.bits]
 omega
open Go.RowKit
def dl (s : Yb) (g : NI) (j : Nat) : List Int := (List.range s.size).map fun i => if i < j then g i else bt s i
theorem dl_length (s : Yb) (g : NI) (j : Nat) : (dl s g j).length = s.size := by simp [dl]
theorem dl_zero (s : Yb) (g : NI) : sb s = dl s g 0 := by
 refine List.ext_getElem? fun i => ?_
 by_cases h : i < s.size
 ·rw [sb_get s i h]
  simp [dl, h]
 ·rw [List.getElem?_eq_none (by rw [sb_length]; omega), List.getElem?_eq_none (by rw [dl_length]; omega)]
open Go.RowKit
theorem bt_bs (l : List Int) (h : ∀ x ∈ l, 0 ≤ x ∧ x < 256) (i : Nat) : bt (bs l) i = l.getD i 0 := by rw [bt_of_sb, sb_bs l h]
theorem ot_map (f : NI) (s : Yb) : ∀ n, ot f s n = (List.range n).map fun i => UInt8.ofNat (ob f s i).toNat
 | 0 => rfl
 | n + 1 => by
  unfold ot
  rw [ot_map f s n, List.range_succ, List.map_append]
  rfl
theorem oS_bs (f : NI) (s : Yb) : oS f s = bs ((List.range s.size).map (ob f s)) := by
 unfold oS bs
 rw [ot_map, List.map_map]
 rfl
theorem oS_size (f : NI) (s : Yb) : (oS f s).size = s.size := by
 rw [oS_bs, bs_size]
 simp
open Go.RowKit
open Go.Shelf
def bF (p v : Value) : Nat → Value := fun i => if i = 0 then p else v
theorem put_bF (p v v' : Value) (j : Nat) (hj : j < 2) : (if j = 1 then v' else bF p v j) = bF p v' j := by
 unfold bF
 by_cases h : j = 1
 ·subst h
  rfl
 ·rw [if_neg h]
  have : j = 0 := by omega
  subst this
  rfl
theorem av_bF (p v : Value) : av 2 (bF p v) = #[p, v] := rfl
def selfp (k : Nat) : Value := .pointer (some ⟨k, 0, none⟩)
structure BA (u : World) (k : Nat) (ao : Option Addr) (cap : Nat) (l : List UInt8) : Prop where
 at_ : u.heap[k]? = some (.cells (av 2 (bF (.pointer none) (.slice ao l.length cap))) 182) ∨ u.heap[k]? = some (.cells (av 2 (bF (selfp k) (.slice ao l.length cap))) 182)
 own : u.ownsRowF 0 5 1 (.slice ao l.length cap) l.length (Lib.byteCells l)
def rowOf (ao : Option Addr) : List Nat := (ao.map (·.block)).toList
theorem own_row (ao : Option Addr) (n cap g : Nat) : (Value.slice ao n cap).ownBlock = some g ↔ g ∈ rowOf ao := by
 cases ao with
 | none => simp [Value.ownBlock, rowOf]
 | some a => simp [Value.ownBlock, rowOf, eq_comm]
theorem ownF_keep {u u' : World} {ao : Option Addr} {n cap : Nat} {xs : List Value} (h : u.ownsRowF 0 5 1 (.slice ao n cap) n xs) (hk : ∀ g ∈ rowOf ao, u'.heap[g]? = u.heap[g]?) : u'.ownsRowF 0 5 1 (.slice ao n cap) n xs := by
 refine ⟨h.1, ?_⟩
 rcases h.2 with h | ⟨g, c, cur, fz, hv, h2, h3, h4⟩
 ·exact .inl h
 ·refine .inr ⟨g, c, cur, fz, hv, h2, ?_, h4⟩
  rw [hk g ((own_row ao n cap g).1 (by rw [hv]; rfl))]
  exact h3
theorem BA.keep {u u' : World} {k cap : Nat} {ao : Option Addr} {l : List UInt8} (h : BA u k ao cap l) (h0 : u'.heap[k]? = u.heap[k]?) (hk : ∀ g ∈ rowOf ao, u'.heap[g]? = u.heap[g]?) : BA u' k ao cap l :=
 ⟨by rw [h0]; exact h.at_, ownF_keep h.own hk⟩
theorem BA.lt {u : World} {k cap : Nat} {ao : Option Addr} {l : List UInt8} (h : BA u k ao cap l) : k < u.heap.size := h.at_.elim (fun h => (Array.getElem?_eq_some_iff.1 h).1) (fun h => (Array.getElem?_eq_some_iff.1 h).1)
theorem BA.row_lt {u : World} {k cap : Nat} {ao : Option Addr} {l : List UInt8} (h : BA u k ao cap l) : ∀ g ∈ rowOf ao, g < u.heap.size := fun g hg => (h.own.lt g ((own_row ao _ cap g).2 hg)).2
theorem BA.ne {u : World} {k cap : Nat} {ao : Option Addr} {l : List UInt8} (h : BA u k ao cap l) : k ∉ rowOf ao := fun hk => by
 have h1 := (own_row ao l.length cap k).2 hk
 rcases h.at_ with h2 | h2 <;> exact Lib.ownBlock_neF h.own h2 (by decide) h1
theorem app_str {w : World} {ao : Option Addr} {n cap : Nat} {xs : List Value} (h : w.ownsRowF 0 5 1 (.slice ao n cap) n xs) (s : Yb) (hb : n + s.size ≤ 1000000) (ty : TypeId) :
  ∃ ao' cap' w', (Builtin.append_ #[44, 9] ty #[.slice ao n cap, .string s]).run Tryz.prog w = .ok (.slice ao' (n + s.size) cap') w' ∧ w'.ownsRowF 0 5 1 (.slice ao' (n + s.size) cap') (n + s.size) (xs ++ Lib.strCells s) ∧ Grw w w' (rowOf ao) ∧ (rowOf ao' = rowOf ao ∨ ∃ g, rowOf ao' = [g] ∧ w.heap.size ≤ g) := by
 obtain ⟨i0, hi, hz0, hz1, hz2⟩ := info_parts repExtra.infoByte
 have hm : n + s.size ≤ maxLen := by unfold maxLen; omega
 obtain ⟨v', w', hr, h2, h3, h4⟩ := Lib.run_append_own_stringF (P := Tryz.prog) w 0 44 9 ty 5 i0 Tryz.underlying44 Tryz.underlying9 hi hz0 hz1 hz2 _ n xs h s hm (by omega) (Nat.zero_le _)
 obtain ⟨ao', cap', rfl⟩ : ∃ ao' cap', v' = .slice ao' (n + s.size) cap' := by
  rcases h2.2 with ⟨hv, hn⟩ | ⟨g, c, cur, fz, hv, _⟩
  ·exact ⟨none, 0, by rw [hv, hn]⟩
  ·exact ⟨_, _, hv⟩
 refine ⟨ao', cap', w', hr, h2, ⟨h3.os, h3.tape, h3.output, h3.size, fun k hk hkr => h3.block k hk fun e => hkr ((own_row ao n cap k).1 e.symm)⟩, ?_⟩
 rcases h.2 with ⟨hv, hn⟩ | ⟨g, c, cur, fz, hv, _, hg, hfz, hnc, hcm, hcs, htake⟩
 ·obtain ⟨v2, w2, hr2, h5, _⟩ := Lib.run_append_own_stringF (P := Tryz.prog) w w.heap.size 44 9 ty 5 i0 Tryz.underlying44 Tryz.underlying9 hi hz0 hz1 hz2 _ n xs ⟨h.1, .inl ⟨hv, hn⟩⟩ s hm (by omega) (Nat.le_refl _)
  rw [hr] at hr2
  cases hr2
  cases hao : ao' with
  | none =>
   left
   cases hv
   rfl
  | some x =>
   right
   refine ⟨x.block, rfl, ?_⟩
   rw [hao] at h5
   exact (h5.lt x.block rfl).1
 ·cases hv
  have hxl : xs.length = n := by simpa using h.1
  have hcs' : cur.size = cap := by simpa using hcs
  by_cases hroom : n + s.size ≤ cap
  ·have hr2 := Lib.run_append_room_stringF (P := Tryz.prog) w 44 9 ty 5 i0 Tryz.underlying44 Tryz.underlying9 hi hz1 g n cap cur fz hg (by simpa using hfz) s hroom (by omega)
   rw [hr] at hr2
   cases hr2
   exact .inl rfl
  ·have hr2 := Lib.run_append_grow_string (P := Tryz.prog) w 44 9 ty 5 i0 (.int .u8 0) Tryz.underlying44 Tryz.underlying9 hi hz0 ⟨g, 0, none⟩ n cap xs (by rw [hz1]; simpa using hxl) (h.cells (g := g) rfl) s (by omega) (by omega) (by rw [hz2]; exact growslice_fits (by omega) (by omega))
   rw [hr] at hr2
   cases hr2
   exact .inr ⟨_, rfl, Nat.le_refl _⟩
theorem app_byte {w : World} {ao : Option Addr} {n cap : Nat} {xs : List Value} (h : w.ownsRowF 0 5 1 (.slice ao n cap) n xs) (gx : Nat) (c : Int) (hc : w.cell? ⟨gx, 0, none⟩ = some (.int .u8 c)) (hb : n + 1 ≤ 1000000) (ty : TypeId) :
  ∃ ao' cap' w', (Builtin.append_ #[44, 44] ty #[.slice ao n cap, .slice (some ⟨gx, 0, none⟩) 1 1]).run Tryz.prog w = .ok (.slice ao' (n + 1) cap') w' ∧ w'.ownsRowF 0 5 1 (.slice ao' (n + 1) cap') (n + 1) (xs ++ [.int .u8 c]) ∧ Grw w w' (rowOf ao) ∧ (rowOf ao' = rowOf ao ∨ ∃ g, rowOf ao' = [g] ∧ w.heap.size ≤ g) := by
 obtain ⟨i0, hi, hz0, hz1, hz2⟩ := info_parts repExtra.infoByte
 have hm : n + 1 ≤ maxLen := by unfold maxLen; omega
 have hnews : ∀ j u, [Value.int .u8 c][j]? = some u → w.cell? ((⟨gx, 0, none⟩ : Addr).add j) = some u := fun j u hj => by
  match j, hj with
  | 0, hj => simp at hj; subst hj; simpa [Addr.add] using hc
 have h1 : ∀ u ∈ [Value.int .u8 c], u.oneCell' = true := fun u hu => by simp at hu; subst hu; rfl
 obtain ⟨v', w', hr, h2, h3, h4⟩ := run_append_ownF (P := Tryz.prog) w 0 44 ty 5 i0 (.int .u8 0) 1 1 Tryz.underlying44 hi hz0 hz1 hz2 rfl (by decide) _ n xs h ⟨gx, 0, none⟩ 1 1 [.int .u8 c] rfl hnews h1 hm (by omega) (Nat.zero_le _)
 obtain ⟨ao', cap', rfl⟩ : ∃ ao' cap', v' = .slice ao' (n + 1) cap' := by
  rcases h2.2 with ⟨hv, hn⟩ | ⟨g, c, cur, fz, hv, _⟩
  ·omega
  ·exact ⟨_, _, hv⟩
 refine ⟨ao', cap', w', hr, h2, ⟨h3.os, h3.tape, h3.output, h3.size, fun k hk hkr => h3.block k hk fun e => hkr ((own_row ao n cap k).1 e.symm)⟩, ?_⟩
 rcases h.2 with ⟨hv, hn⟩ | ⟨g, c2, cur, fz, hv, _, hg, hfz, hnc, hcm, hcs, htake⟩
 ·obtain ⟨v2, w2, hr2, h5, _⟩ := run_append_ownF (P := Tryz.prog) w w.heap.size 44 ty 5 i0 (.int .u8 0) 1 1 Tryz.underlying44 hi hz0 hz1 hz2 rfl (by decide) _ n xs ⟨h.1, .inl ⟨hv, hn⟩⟩ ⟨gx, 0, none⟩ 1 1 [.int .u8 c] rfl hnews h1 hm (by omega) (Nat.le_refl _)
  rw [hr] at hr2
  cases hr2
  cases hao : ao' with
  | none =>
   left
   cases hv
   rfl
  | some x =>
   right
   refine ⟨x.block, rfl, ?_⟩
   rw [hao] at h5
   exact (h5.lt x.block rfl).1
 ·cases hv
  have hxl : xs.length = n := by simpa using h.1
  have hcs' : cur.size = cap := by simpa using hcs
  by_cases hroom : n + 1 ≤ cap
  ·have hr2 := run_append_roomF (P := Tryz.prog) w 44 ty 5 i0 Tryz.underlying44 hi g n cap cur fz hg (by rw [hz1]; simpa using hfz) ⟨gx, 0, none⟩ 1 1 [.int .u8 c] (by rw [hz1]; rfl) hnews h1 hroom (by rw [hz1]; simp; omega)
   rw [hr] at hr2
   cases hr2
   exact .inl rfl
  ·have hr2 := run_append_grow (P := Tryz.prog) w 44 ty 5 i0 (.int .u8 0) Tryz.underlying44 hi hz0 ⟨g, 0, none⟩ n cap xs (by rw [hz1]; simpa using hxl) (h.cells (g := g) rfl) ⟨gx, 0, none⟩ 1 1 [.int .u8 c] (by rw [hz1]; rfl) hnews (by omega) (by omega) (by rw [hz2]; exact growslice_fits (by omega) (by omega))
   rw [hr] at hr2
   cases hr2
   exact .inr ⟨_, rfl, Nat.le_refl _⟩
theorem c_chk {u : World} {k cap : Nat} {ao : Option Addr} {l : List UInt8} (h : BA u k ao cap l) : Calls Tryz.prog 157 #[.pointer (some ⟨k, 0, none⟩)] u fun r u' => r = .returned (.tuple #[]) ∧ u'.heap[k]? = some (.cells (av 2 (bF (selfp k) (.slice ao l.length cap))) 182) ∧ Grw u u' [k] := by
 rcases h.at_ with h1 | h1
 ·refine (Any.Builder_copyCheck_fresh (P := Tryz.prog) (ρ := repRen) { lays167 with } repExtra.toX72 k u (cell_av h1 (by decide)) (by simp [World.shape?, h1, av_size, repRen]) (free_av h1 0)).mono ?_
  rintro r u' ⟨rfl, rfl⟩
  refine ⟨rfl, ?_, grown_setCell _ _ _ _⟩
  have h2 := h1
  rw [av_bF] at h2
  rw [av_bF]
  simp [World.setCell, Array.getElem?_modify, h2, selfp]
 ·refine (Any.Builder_copyCheck_used (P := Tryz.prog) (ρ := repRen) { lays167 with } repExtra.toX72 k u (cell_av h1 (by decide))).mono ?_
  rintro r u' ⟨rfl, rfl⟩
  exact ⟨rfl, h1, grown_refl _ _⟩
open Go.RowKit
open Go.Shelf
theorem Mem.grow {c : Ctx} {W W' : World} {L : List Blk} (M : Mem c L W) {r : List Nat} (hg : Grw W W' r) (hr : ∀ g ∈ r, g ∈ c.r ∧ g ∉ L.map Blk.g) : Mem c L W' where
 old := ⟨hg.os.trans M.old.os, hg.tape.trans M.old.tape, hg.output.trans M.old.output, Nat.le_trans M.old.size hg.size, fun k hk hk2 => (hg.block k (Nat.lt_of_lt_of_le hk M.old.size) fun h => hk2 (hr k h).1).trans (M.old.block k hk hk2)⟩
 at_ := fun b hb => by
  rw [hg.block _ (M.lt hb) fun h => (hr _ h).2 (List.mem_map_of_mem hb)]
  exact M.at_ b hb
 ge := M.ge
 nodup := M.nodup
 lay := M.lay
 ne := M.ne
theorem pl_putk {ops : Array Oper} {rest : List Oper} {o : Oper} {a : Act} {w : World} {c : Ctx} {Q : Exit → Act → World → Prop} {k : Nat} {p v v' : Value} (M : Mem c [⟨k, .cells (av 2 (bF p v)) 182⟩] w) (hw : Region.wanted o (yielded ops a.tmps) = true) (hd : o.dst = none) (x y : Operand) (ho : o.op = .store 44 x y) (hx : a.eval x = .pointer (some ⟨k, 1, none⟩)) (hy : a.eval y = v') (h1 : v'.oneCell' = true) (hc : v'.cells = #[v'])
  (h : ∀ w', Mem c [⟨k, .cells (av 2 (bF p v')) 182⟩] w' → (∀ g, g < w.heap.size → g ≠ k → w'.heap[g]? = w.heap[g]?) → PL Tryz.prog ops Q rest a w') : PL Tryz.prog ops Q (o :: rest) a w := by
 have hk : k < w.heap.size := (Array.getElem?_eq_some_iff.1 (M.get 0 rfl)).1
 have M2 : Mem ⟨w, [k]⟩ [⟨k, .cells (av 2 (bF p v)) 182⟩] w := ⟨grown_refl _ _, by simpa using M.get 0 rfl, by simp, by simp, M.laid, by simpa using M.ne0 0 rfl⟩
 refine pl_put1 M2 hw hd 44 x y ho 0 k 1 hx 2 182 _ rfl v' _ hy inz44 (by decide) h1 hc (fun j hj => put_bF _ _ _ j hj) ?_
 intro w' M3
 refine h w' ?_ ?_
 ·exact M.put 0 _ rfl _ ⟨M3.old.os, M3.old.tape, M3.old.output, M3.old.size, fun j hj hr => M3.old.block j hj hr⟩ (M3.get 0 rfl)
 ·intro g hlt hg
  exact M3.old.block g hlt (by simpa using hg)
theorem c_wstr {k cap : Nat} {ao : Option Addr} {l : List UInt8} (s : Yb) (w : World) (hL : Laid w) (h : BA w k ao cap l) (hne : ∀ x ∈ k :: rowOf ao, 2 < x) (hb : l.length + s.size ≤ 1000000) : Calls Tryz.prog 140 #[.pointer (some ⟨k, 0, none⟩), .string s] w fun r w' => r = .returned (.tuple #[.int .i64 (s.size : Int), .nilIface]) ∧ ∃ ao' cap', BA w' k ao' cap' (l ++ s.data.toList) ∧ Grw w w' (k :: rowOf ao) ∧ (rowOf ao' = rowOf ao ∨ ∃ g, rowOf ao' = [g] ∧ w.heap.size ≤ g) := by
 go_enter Tryz.func140, Tryz.ntmps140
 refine sq <| sR <| rV 1 ?_
 refine pl_callq (want_no rfl) (some 7) rfl 157 #[.pointer (some ⟨k, 0, none⟩)] (fun _ => by kernel_rfl) ((c_chk h).mono ?_)
 rintro _ u1 ⟨rfl, hk1, hg1⟩
 refine ⟨_, rfl, ?_⟩
 have M : Mem ⟨w, k :: rowOf ao⟩ [⟨k, .cells (av 2 (bF (selfp k) (.slice ao l.length cap))) 182⟩] u1 := ⟨⟨hg1.os, hg1.tape, hg1.output, hg1.size, fun j hj hr => hg1.block j hj (fun e => hr (by rw [List.mem_singleton.1 e]; exact List.mem_cons_self ..))⟩, by simpa using hk1, by simp, by simp, hL, hne⟩
 have hown : u1.ownsRowF 0 5 1 (.slice ao l.length cap) l.length (Lib.byteCells l) := ownF_keep h.own fun g hg => hg1.block g (h.row_lt g hg) fun e => h.ne (by rw [← List.mem_singleton.1 e]; exact hg)
 refine nT <| sR <| rV 4 <| ZE M 12 0 1 <| rV 1 ?_
 obtain ⟨ao2, cap2, u2, hr2, hown2, hg2, hao⟩ := app_str hown s hb 44
 refine pl_to (want_no rfl) (some 14) rfl (.slice ao2 (l.length + s.size) cap2) u2 (show _ = _ from Eq.trans (b := (do pure (Next.value (← Builtin.append_ #[44, 9] 44 #[.slice ao l.length cap, .string s]))).run Tryz.prog u1) (by kernel_rfl) (by simp only [Sem.run_bind, hr2, Result.andThen_ok, Sem.run_pure])) ?_
 have hfr : rowOf ao2 = rowOf ao ∨ ∃ g, rowOf ao2 = [g] ∧ w.heap.size ≤ g := hao.imp id fun ⟨g, h1, h2⟩ => ⟨g, h1, Nat.le_trans M.old.size h2⟩
 have hrow2 : ∀ g ∈ rowOf ao2, g ≠ k := fun g hg e => by
  rcases hfr with h1 | ⟨x, h1, h2⟩
  ·rw [h1] at hg; exact h.ne (e ▸ hg)
  ·rw [h1] at hg; have h3 := h.lt; rw [List.mem_singleton.1 hg] at e; omega
 replace M := M.grow hg2 (fun g hg => ⟨List.mem_cons_of_mem _ hg, fun e => h.ne (by rw [← show g = k by simpa using e]; exact hg)⟩)
 refine rV 2 ?_
 refine pl_putk (v' := .slice ao2 (l.length + s.size) cap2) M (want_no rfl) rfl _ _ rfl (by kernel_rfl) (by kernel_rfl) rfl rfl ?_
 intro u3 M hst
 refine nT <| sq <| wp_ret ?_
 refine bodyPost_ret (v := .tuple #[.int .i64 (s.size : Int), Value.nilIface]) (results_tmp2 Tryz.results140 _ _ _ _ (by kernel_rfl) (by kernel_rfl)) (by kernel_rfl) ⟨rfl, ao2, cap2, ⟨.inr ?_, ?_⟩, M.old, hfr⟩
 ·rw [show (l ++ s.data.toList).length = l.length + s.size from List.length_append]; exact M.get 0 rfl
 ·rw [show (l ++ s.data.toList).length = l.length + s.size from List.length_append, Lib.byteCells_append]; exact ownF_keep hown2 fun g hg => hst g (hown2.lt g ((own_row _ _ _ g).2 hg)).2 (hrow2 g hg)
theorem c_wbyte {k cap : Nat} {ao : Option Addr} {l : List UInt8} (c : Int) (w : World) (hL : Laid w) (h : BA w k ao cap l) (hne : ∀ x ∈ k :: rowOf ao, 2 < x) (hb : l.length + 1 ≤ 1000000) (h0 : 0 ≤ c) (h1 : c < 256) : Calls Tryz.prog 128 #[.pointer (some ⟨k, 0, none⟩), .int .u8 c] w fun r w' => r = .returned (.nilIface) ∧ ∃ ao' cap', BA w' k ao' cap' (l ++ [UInt8.ofNat c.toNat]) ∧ Grw w w' (k :: rowOf ao) ∧ (rowOf ao' = rowOf ao ∨ ∃ g, rowOf ao' = [g] ∧ w.heap.size ≤ g) := by
 go_enter Tryz.func128, Tryz.ntmps128
 refine sq <| sR <| rV 1 ?_
 refine pl_callq (want_no rfl) (some 6) rfl 157 #[.pointer (some ⟨k, 0, none⟩)] (fun _ => by kernel_rfl) ((c_chk h).mono ?_)
 rintro _ u1 ⟨rfl, hk1, hg1⟩
 refine ⟨_, rfl, ?_⟩
 have M : Mem ⟨w, k :: rowOf ao⟩ [⟨k, .cells (av 2 (bF (selfp k) (.slice ao l.length cap))) 182⟩] u1 := ⟨⟨hg1.os, hg1.tape, hg1.output, hg1.size, fun j hj hr => hg1.block j hj (fun e => hr (by rw [List.mem_singleton.1 e]; exact List.mem_cons_self ..))⟩, by simpa using hk1, by simp, by simp, hL, hne⟩
 have hown : u1.ownsRowF 0 5 1 (.slice ao l.length cap) l.length (Lib.byteCells l) := ownF_keep h.own fun g hg => hg1.block g (h.row_lt g hg) fun e => h.ne (by rw [← List.mem_singleton.1 e]; exact hg)
 refine nT <| sR <| rV 4 <| ZE M 11 0 1 <| rV 1 ?_
 have hb2 : ∀ g ∈ rowOf ao, u1.heap[g]? = u1.heap[g]? := fun g hg => rfl
 refine pl_to (want_no rfl) (some 13) rfl (.slice (some ⟨u1.heap.size, 0, none⟩) 1 1) (u1.alloc (.cells (av 1 (fun _ => .int .u8 c)) 5)) (by kernel_rfl) ?_
 replace M := M.new u1.heap.size (.cells (av 1 (fun _ => .int .u8 c)) 5) (new_below u1 _) (heap_alloc_new u1 _) (Nat.le_refl _)
 replace hb2 : ∀ g ∈ rowOf ao, (u1.alloc (.cells (av 1 (fun _ => .int .u8 c)) 5)).heap[g]? = u1.heap[g]? := fun g hg => heap_alloc_old u1 _ (hown.lt g ((own_row _ _ _ g).2 hg)).2
 obtain ⟨ao2, cap2, u2, hr2, hown2, hg2, hao⟩ := app_byte (ownF_keep hown fun g hg => hb2 g hg) u1.heap.size c (cell_av (M.get 1 rfl) (by decide)) hb 44
 refine pl_to (want_no rfl) (some 14) rfl (.slice ao2 (l.length + 1) cap2) u2 (show _ = _ from Eq.trans (b := (do pure (Next.value (← Builtin.append_ #[44, 44] 44 #[.slice ao l.length cap, .slice (some ⟨u1.heap.size, 0, none⟩) 1 1]))).run Tryz.prog (u1.alloc (.cells (av 1 (fun _ => .int .u8 c)) 5))) (by kernel_rfl) (by simp only [Sem.run_bind, hr2, Result.andThen_ok, Sem.run_pure])) ?_
 have hfr : rowOf ao2 = rowOf ao ∨ ∃ g, rowOf ao2 = [g] ∧ w.heap.size ≤ g := hao.imp id fun ⟨g, h1, h2⟩ => ⟨g, h1, Nat.le_trans M.old.size h2⟩
 have hrow2 : ∀ g ∈ rowOf ao2, g ≠ k := fun g hg e => by
  rcases hfr with h1 | ⟨x, h1, h2⟩
  ·rw [h1] at hg; exact h.ne (e ▸ hg)
  ·rw [h1] at hg; have h3 := h.lt; rw [List.mem_singleton.1 hg] at e; omega
 replace M := M.drop (L' := [⟨k, .cells (av 2 (bF (selfp k) (.slice ao l.length cap))) 182⟩]) (.cons_cons _ (.cons _ .slnil))
 replace M := M.grow hg2 (fun g hg => ⟨List.mem_cons_of_mem _ hg, fun e => h.ne (by rw [← show g = k by simpa using e]; exact hg)⟩)
 refine rV 2 ?_
 refine pl_putk (v' := .slice ao2 (l.length + 1) cap2) M (want_no rfl) rfl _ _ rfl (by kernel_rfl) (by kernel_rfl) rfl rfl ?_
 intro u3 M hst
 refine nT <| sq <| wp_ret ?_
 refine bodyPost_ret (v := Value.nilIface) (results_tmp1 Tryz.results128 _ _ _ (by kernel_rfl)) (by kernel_rfl) ⟨rfl, ao2, cap2, ⟨.inr ?_, ?_⟩, M.old, hfr⟩
 ·rw [show (l ++ [UInt8.ofNat c.toNat]).length = l.length + 1 from List.length_append]; exact M.get 0 rfl
 ·rw [show (l ++ [UInt8.ofNat c.toNat]).length = l.length + 1 from List.length_append, cells_one l c h0 h1]; exact ownF_keep hown2 fun g hg => hst g (hown2.lt g ((own_row _ _ _ g).2 hg)).2 (hrow2 g hg)
open Go.RowKit
open Go.Shelf
theorem BA.cell1 {u : World} {k cap : Nat} {ao : Option Addr} {l : List UInt8} (h : BA u k ao cap l) : u.cell? ⟨k, 1, none⟩ = some (.slice ao l.length cap) := h.at_.elim (fun h => cell_av h (by decide)) (fun h => cell_av h (by decide))
theorem freeze_row {u : World} {g n : Nat} {cur : Array Value} {fz : Nat × Nat} (h : u.heap[g]? = some (.cells cur 5 fz)) (hf : fz.2 ≤ n) (hn : n ≠ 0) : ∃ fz', (u.freeze ⟨g, 0, none⟩ n).heap[g]? = some (.cells cur 5 fz') ∧ fz'.2 ≤ n ∧ Grw u (u.freeze ⟨g, 0, none⟩ n) [g] := by
 unfold World.freeze
 rw [if_neg hn]
 refine ⟨(if fz.1 == fz.2 then (0, 0 + n) else (min fz.1 0, max fz.2 (0 + n))), ?_, ?_, ⟨rfl, rfl, rfl, by simp, fun j _ hj => ?_⟩⟩
 ·simp only [Array.getElem?_modify, h]
  simp
 ·split
  ·simp
  ·show max fz.2 (0 + n) ≤ n
   omega
 ·simp only [Array.getElem?_modify]
  rw [if_neg (fun e => hj (by simpa using e.symm))]
theorem c_blen {k cap : Nat} {ao : Option Addr} {l : List UInt8} (w : World) (hL : Laid w) (h : BA w k ao cap l) : Cs 141 #[.pointer (some ⟨k, 0, none⟩)] w (.int .i64 (l.length : Int)) := by
 go_enter Tryz.func141, Tryz.ntmps141
 have M := Mem.start hL
 refine sq <| sR <| rV 3 ?_
 refine pE M 6 k 1 (.slice ao l.length cap) (fun w M => M.oldc h.cell1 (by simp)) ?_
 refine rV 2 <| nT <| wp_ret ?_
 exact b1 M
theorem row_cell {u : World} {g : Nat} {cur : Array Value} {fz : Nat × Nat} {l : List UInt8} (h : u.heap[g]? = some (.cells cur 5 fz)) (ht : cur.toList.take (l.length * 1) = Lib.byteCells l) {j : Nat} {x : UInt8} (hx : l[j]? = some x) : u.cell? ⟨g, j, none⟩ = some (.int .u8 x.toNat) := by
 have h2 : (Lib.byteCells l)[j]? = some (.int .u8 x.toNat) := by simp [Lib.byteCells, hx]
 rw [← ht, List.getElem?_take] at h2
 split at h2
 ·unfold World.cell?
  rw [h]
  simpa using h2
 ·cases h2
theorem c_bstr {k cap : Nat} {ao : Option Addr} {l : List UInt8} (w : World) (hL : Laid w) (h : BA w k ao cap l) (hne : ∀ x ∈ k :: rowOf ao, 2 < x) (h0 : l ≠ []) : Calls Tryz.prog 129 #[.pointer (some ⟨k, 0, none⟩)] w fun r w' => r = .returned (.string ⟨l.toArray⟩) ∧ ∃ ao' cap', BA w' k ao' cap' l ∧ Grw w w' (k :: rowOf ao) ∧ (rowOf ao' = rowOf ao ∨ ∃ g, rowOf ao' = [g] ∧ w.heap.size ≤ g) := by
 have hl0 : l.length ≠ 0 := by simpa using h0
 obtain ⟨g, cur, fz, rfl, hg, hfz, hnc, hcm, hcs, htake⟩ : ∃ g cur fz, ao = some ⟨g, 0, none⟩ ∧ w.heap[g]? = some (.cells cur 5 fz) ∧ fz.2 ≤ l.length ∧ l.length ≤ cap ∧ cap ≤ maxLen ∧ cur.size = cap * 1 ∧ cur.toList.take (l.length * 1) = Lib.byteCells l := by
  rcases h.own.2 with ⟨_, hz⟩ | ⟨g, c, cur, fz, hv, _, h2, h3, h4⟩
  ·exact absurd hz hl0
  ·cases hv
   exact ⟨g, cur, fz, rfl, h2, by simpa using h3, h4⟩
 have hgk : g ≠ k := fun e => h.ne (by simp [rowOf, e])
 have M : Mem ⟨w, [g]⟩ [⟨g, .cells cur 5 fz⟩] w := ⟨grown_refl _ _, by simpa using hg, by simp, by simp, hL, fun x e => hne x (List.mem_cons_of_mem _ (by simpa [rowOf] using e))⟩
 go_enter Tryz.func129, Tryz.ntmps129
 refine sq <| wp_seq ?_
 refine rgh M [] 11 fun u1 M => ?_
 have qM := M.drop (.cons _ (.slnil))
 refine qV qM 0 3 (.pointer (some ⟨k, 0, none⟩)) ?_
 refine qV qM 1 4 (.pointer (some ⟨k, 0, none⟩)) ?_
 refine qV qM 2 5 (.pointer (some ⟨k, 1, none⟩)) ?_
 refine qC qM 3 6 k 1 (.slice (some ⟨g, 0, none⟩) l.length cap) (fun w M => M.oldc h.cell1 (by simpa using Ne.symm hgk)) ?_
 refine qH qM 4 7 (.pointer (some ⟨g, 0, none⟩)) (fun w _ => (fun w => Eq.trans (b := (do pure (Next.value (← Builtin.unsafeSliceData_ #[44] 218 #[.slice (some ⟨g, 0, none⟩) l.length cap]))).run Tryz.prog w) (by kernel_rfl) (by simp only [Sem.run_bind, Lib.run_unsafeSliceData_row w #[44] 218 ⟨g, 0, none⟩ l.length cap (by omega), Result.andThen_ok, Sem.run_pure])) w) ?_
 refine qV qM 5 8 (.pointer (some ⟨k, 0, none⟩)) ?_
 refine qV qM 6 9 (.pointer (some ⟨k, 0, none⟩)) ?_
 refine qV qM 7 10 (.pointer (some ⟨k, 1, none⟩)) ?_
 refine qC qM 8 11 k 1 (.slice (some ⟨g, 0, none⟩) l.length cap) (fun w M => M.oldc h.cell1 (by simpa using Ne.symm hgk)) ?_
 refine qV qM 9 12 (.int .i64 (l.length : Int)) ?_
 refine qO 10 ?_
 have hg1 : u1.heap[g]? = some (.cells cur 5 fz) := M.get 0 rfl
 have hUS := Lib.run_unsafeString_row (P := Tryz.prog) u1 218 3 9 5 Tryz.underlying218 repExtra.cellsByte g cur.size (by simp [World.shape?, hg1]) l h0 (by omega) (by unfold maxLen at hcm; omega) (fun j x hx => by rw [add_at, Nat.zero_add]; exact row_cell hg1 htake hx)
 obtain ⟨fz1, hf1, hf2, hf3⟩ := freeze_row hg1 hfz (by simpa using h0)
 refine pl_to (want_no rfl) (some 13) rfl (.string ⟨l.toArray⟩) (u1.freeze ⟨g, 0, none⟩ l.length) (show _ = _ from Eq.trans (b := (do pure (Next.value (← Builtin.unsafeString_ #[218, 3] 9 #[.pointer (some ⟨g, 0, none⟩), .int .i64 l.length]))).run Tryz.prog u1) (by kernel_rfl) (by simp only [Sem.run_bind, hUS, Result.andThen_ok, Sem.run_pure])) ?_
 replace M := M.put 0 _ rfl _ hf3 hf1
 generalize u1.freeze ⟨g, 0, none⟩ l.length = u2 at M ⊢
 refine nT ?_
 refine ⟨(M.drop (.cons _ (.slnil))), ?_⟩
 refine qZ ?_
 refine rV 1 <| nT <| au_then <| wp_ret ?_
 refine bodyPost_ret (v := .string ⟨l.toArray⟩) (results_tmp1 Tryz.results129 _ _ _ (by kernel_rfl)) (by kernel_rfl) ⟨rfl, some ⟨g, 0, none⟩, cap, ⟨?_, ⟨by simp [Lib.byteCells_length], .inr ⟨g, cap, cur, fz1, rfl, Nat.zero_le _, M.get 0 rfl, by omega, hnc, hcm, hcs, htake⟩⟩⟩, ?_, .inl rfl⟩
 ·have e := M.old.block k h.lt (by simpa using Ne.symm hgk)
  rw [show u2.heap[k]? = w.heap[k]? from e]; exact h.at_
 ·exact ⟨M.old.os, M.old.tape, M.old.output, M.old.size, fun j hj hr => M.old.block j hj fun e => hr (List.mem_cons_of_mem _ (by simpa [rowOf] using e))⟩
theorem flatMap_eq {α β : Type} {f g : α → List β} : ∀ (l : List α), (∀ a ∈ l, f a = g a) → l.flatMap f = l.flatMap g
 | [], _ => rfl
 | a :: l, h => by rw [List.flatMap_cons, List.flatMap_cons, h a (List.mem_cons_self ..), flatMap_eq l fun b hb => h b (List.mem_cons_of_mem _ hb)]
structure Bd where
 k : Nat
 l : List UInt8
def owns (V : Nat → Option Addr × Nat) (Bs : List Bd) : List Nat := Bs.flatMap fun b => b.k :: rowOf (V b.k).1
structure SN (w : World) (Bs : List Bd) (L : List Blk) (u : World) : Prop where
 bel : Below w.heap.size w u
 at_ : ∀ b ∈ L, u.heap[b.g]? = some b.Z
 ex : ∃ V : Nat → Option Addr × Nat, (∀ b ∈ Bs, BA u b.k (V b.k).1 (V b.k).2 b.l) ∧ (owns V Bs ++ L.map Blk.g).Nodup ∧ ∀ x ∈ owns V Bs ++ L.map Blk.g, w.heap.size ≤ x
theorem owns_lt {u : World} {V : Nat → Option Addr × Nat} {Bs : List Bd} (h : ∀ b ∈ Bs, BA u b.k (V b.k).1 (V b.k).2 b.l) : ∀ x ∈ owns V Bs, x < u.heap.size := fun x hx => by
 obtain ⟨b, hb, hx⟩ := List.mem_flatMap.1 hx
 rcases List.mem_cons.1 hx with rfl | hx
 ·exact (h b hb).lt
 ·exact (h b hb).row_lt x hx
theorem SN.mem {w u : World} {Bs : List Bd} {L : List Blk} (h : SN w Bs L u) (hL : Laid w) : Mem ⟨u, L.map Blk.g⟩ L u := by
 obtain ⟨V, h1, h2, h3⟩ := h.ex
 exact ⟨grown_refl _ _, h.at_, fun b hb => .inr (List.mem_map_of_mem hb), (List.nodup_append.1 h2).2.1, below_laid h.bel hL, fun x e => by
  have := h3 x (List.mem_append.2 (.inr e))
  have := hL.lt
  omega⟩
theorem SN.next {w u u' : World} {Bs : List Bd} {L L' : List Blk} (h : SN w Bs L u) (M : Mem ⟨u, L.map Blk.g⟩ L' u') : SN w Bs L' u' := by
 obtain ⟨V, h1, h2, h3⟩ := h.ex
 obtain ⟨n1, n2, n3⟩ := List.nodup_append.1 h2
 have hsz := h.bel.size
 have ho : Grw u u' (L.map Blk.g) := M.old
 have hk : ∀ x ∈ owns V Bs, u'.heap[x]? = u.heap[x]? := fun x hx => ho.block x (owns_lt h1 x hx) fun hm => n3 x hx x hm rfl
 refine ⟨h.bel.trans ⟨ho.os, ho.tape, ho.output, ho.size, fun j hj => ho.block j (by omega) fun hm => ?_⟩, M.at_, V, fun b hb => ?_, ?_, fun x hx => ?_⟩
 ·have := h3 j (List.mem_append.2 (.inr hm))
  omega
 ·exact (h1 b hb).keep (hk _ (List.mem_flatMap.2 ⟨b, hb, List.mem_cons_self ..⟩)) fun g hg => hk _ (List.mem_flatMap.2 ⟨b, hb, List.mem_cons_of_mem _ hg⟩)
 ·refine List.nodup_append.2 ⟨n1, M.nodup, fun x hx y hy e => ?_⟩
  subst e
  obtain ⟨b, hb, rfl⟩ := List.mem_map.1 hy
  rcases M.ge b hb with h4 | h4
  ·have h4 : u.heap.size ≤ b.g := h4
   have := owns_lt h1 _ hx
   omega
  ·exact n3 _ hx _ h4 rfl
 ·rcases List.mem_append.1 hx with hx | hx
  ·exact h3 x (List.mem_append.2 (.inl hx))
  ·obtain ⟨b, hb, rfl⟩ := List.mem_map.1 hx
   rcases M.ge b hb with h4 | h4
   ·have h4 : u.heap.size ≤ b.g := h4
    omega
   ·exact h3 _ (List.mem_append.2 (.inr h4))
theorem SN.keep {w u u' : World} {Bs : List Bd} {L : List Blk} (h : SN w Bs L u) (hL : Laid w) (hb : Below u.heap.size u u') : SN w Bs L u' := h.next ((h.mem hL).keep hb)
theorem SN.perm {w u : World} {Bs Bs' : List Bd} {L : List Blk} (h : SN w Bs L u) (hp : Bs.Perm Bs') : SN w Bs' L u := by
 obtain ⟨V, h1, h2, h3⟩ := h.ex
 have hq : (owns V Bs ++ L.map Blk.g).Perm (owns V Bs' ++ L.map Blk.g) := (hp.flatMap_right _).append_right _
 exact ⟨h.bel, h.at_, V, fun b hb => h1 b (hp.mem_iff.2 hb), hq.nodup_iff.1 h2, fun x hx => h3 x (hq.mem_iff.2 hx)⟩
theorem SN.cell {w u : World} {Bs : List Bd} {L : List Blk} (h : SN w Bs L u) {g i : Nat} {v : Value} (hg : g < w.heap.size) (hc : w.cell? ⟨g, i, none⟩ = some v) : u.cell? ⟨g, i, none⟩ = some v := by
 unfold World.cell? at hc ⊢
 simp only at hc ⊢
 rw [h.bel.block g hg]
 exact hc
theorem SN.step {w u u' : World} {k : Nat} {l l' : List UInt8} {Bs : List Bd} {L : List Blk} {V : Nat → Option Addr × Nat} (hbel : Below w.heap.size w u) (hat : ∀ b ∈ L, u.heap[b.g]? = some b.Z) (h1 : ∀ b ∈ (⟨k, l⟩ :: Bs : List Bd), BA u b.k (V b.k).1 (V b.k).2 b.l) (h2 : (owns V (⟨k, l⟩ :: Bs) ++ L.map Blk.g).Nodup) (h3 : ∀ x ∈ owns V (⟨k, l⟩ :: Bs) ++ L.map Blk.g, w.heap.size ≤ x)
  {ao : Option Addr} {cap : Nat} (hb : BA u' k ao cap l') (hg : Grw u u' (k :: rowOf (V k).1)) (hao : rowOf ao = rowOf (V k).1 ∨ ∃ g, rowOf ao = [g] ∧ u.heap.size ≤ g) : SN w (⟨k, l'⟩ :: Bs) L u' := by
 have hsz := hbel.size
 have hown : owns V (⟨k, l⟩ :: Bs) = k :: (rowOf (V k).1 ++ owns V Bs) := rfl
 have hmine : ∀ x ∈ k :: rowOf (V k).1, w.heap.size ≤ x := fun x hx => h3 x (List.mem_append.2 (.inl (by
  rw [hown]
  rcases List.mem_cons.1 hx with rfl | hx
  ·exact List.mem_cons_self ..
  ·exact List.mem_cons_of_mem _ (List.mem_append.2 (.inl hx)))))
 rw [hown, List.cons_append, List.append_assoc] at h2
 have h2' : ((k :: rowOf (V k).1) ++ (owns V Bs ++ L.map Blk.g)).Nodup := h2
 obtain ⟨n1, n2, n3⟩ := List.nodup_append.1 h2'
 have hlt : ∀ x ∈ owns V Bs ++ L.map Blk.g, x < u.heap.size := fun x hx => by
  rcases List.mem_append.1 hx with hx | hx
  ·exact owns_lt (fun b hb => h1 b (List.mem_cons_of_mem _ hb)) x hx
  ·obtain ⟨b, hb, rfl⟩ := List.mem_map.1 hx
   exact (Array.getElem?_eq_some_iff.1 (hat b hb)).1
 have hkeep : ∀ x ∈ owns V Bs ++ L.map Blk.g, u'.heap[x]? = u.heap[x]? := fun x hx => hg.block x (hlt x hx) fun hm => n3 x hm x hx rfl
 have hV : ∀ b ∈ Bs, (if b.k = k then (ao, cap) else V b.k) = V b.k := fun b hb => if_neg fun e => n3 k (List.mem_cons_self ..) b.k (List.mem_append.2 (.inl (List.mem_flatMap.2 ⟨b, hb, List.mem_cons_self ..⟩))) e.symm
 have hownV : owns (fun j => if j = k then (ao, cap) else V j) Bs = owns V Bs := by
  unfold owns
  refine flatMap_eq Bs fun b hb => ?_
  show b.k :: rowOf (if b.k = k then (ao, cap) else V b.k).1 = _
  rw [hV b hb]
 have hown2 : owns (fun j => if j = k then (ao, cap) else V j) (⟨k, l'⟩ :: Bs) = k :: (rowOf ao ++ owns V Bs) := by
  rw [← hownV]
  show k :: rowOf (if k = k then (ao, cap) else V k).1 ++ _ = _
  rw [if_pos rfl]
  rfl
 have hnew : ∀ x ∈ rowOf ao, (x ∈ rowOf (V k).1 ∨ u.heap.size ≤ x) := fun x hx => by
  rcases hao with h | ⟨g, h, h4⟩
  ·rw [h] at hx
   exact .inl hx
  ·rw [h] at hx
   rw [List.mem_singleton.1 hx]
   exact .inr h4
 refine ⟨hbel.trans ⟨hg.os, hg.tape, hg.output, hg.size, fun j hj => hg.block j (by omega) fun hm => ?_⟩, fun b hb => ?_, fun j => if j = k then (ao, cap) else V j, fun b hm => ?_, ?_, ?_⟩
 ·have := hmine j hm
  omega
 ·rw [hkeep _ (List.mem_append.2 (.inr (List.mem_map_of_mem hb)))]
  exact hat b hb
 ·rcases List.mem_cons.1 hm with rfl | hb
  ·show BA u' k (if k = k then (ao, cap) else V k).1 (if k = k then (ao, cap) else V k).2 l'
   rw [if_pos rfl]
   exact hb
  ·show BA u' b.k (if b.k = k then (ao, cap) else V b.k).1 (if b.k = k then (ao, cap) else V b.k).2 b.l
   rw [hV b hb]
   exact (h1 b (List.mem_cons_of_mem _ hb)).keep (hkeep _ (List.mem_append.2 (.inl (List.mem_flatMap.2 ⟨b, hb, List.mem_cons_self ..⟩)))) fun g hg => hkeep _ (List.mem_append.2 (.inl (List.mem_flatMap.2 ⟨b, hb, List.mem_cons_of_mem _ hg⟩)))
 ·rw [hown2, List.cons_append, List.append_assoc]
  show ((k :: rowOf ao) ++ (owns V Bs ++ L.map Blk.g)).Nodup
  have hk : k < u.heap.size := (h1 _ (List.mem_cons_self ..)).lt
  refine List.nodup_append.2 ⟨List.nodup_cons.2 ⟨hb.ne, ?_⟩, n2, fun x hx y hy e => ?_⟩
  ·cases ao with
   | none => simp [rowOf]
   | some a => simp [rowOf]
  ·subst e
   rcases List.mem_cons.1 hx with rfl | hx
   ·exact n3 _ (List.mem_cons_self ..) _ hy rfl
   ·rcases hnew x hx with h | h
    ·exact n3 _ (List.mem_cons_of_mem _ h) _ hy rfl
    ·have := hlt x hy
     omega
 ·intro x hx
  rw [hown2, List.cons_append, List.append_assoc] at hx
  rcases List.mem_cons.1 hx with rfl | hx
  ·exact hmine _ (List.mem_cons_self ..)
  ·rcases List.mem_append.1 hx with hx | hx
   ·rcases hnew x hx with h | h
    ·exact hmine x (List.mem_cons_of_mem _ h)
    ·omega
   ·refine h3 x ?_
    rw [hown, List.cons_append, List.append_assoc]
    exact List.mem_cons_of_mem _ (List.mem_append.2 (.inr hx))
theorem SN.not1 {w : World} {k : Nat} {l : List UInt8} {Bs : List Bd} {L : List Blk} {V : Nat → Option Addr × Nat} (hL : Laid w) (h3 : ∀ x ∈ owns V (⟨k, l⟩ :: Bs) ++ L.map Blk.g, w.heap.size ≤ x) : ∀ x ∈ k :: rowOf (V k).1, 2 < x := fun x e => by
 have := h3 x (List.mem_append.2 (.inl (List.mem_append.2 (.inl e))))
 have := hL.lt
 omega
theorem SN.wstr {w u : World} {k : Nat} {l : List UInt8} {Bs : List Bd} {L : List Blk} (h : SN w (⟨k, l⟩ :: Bs) L u) (hL : Laid w) (s : Yb) (hz : l.length + s.size ≤ 1000000) : Calls Tryz.prog 140 #[.pointer (some ⟨k, 0, none⟩), .string s] u fun r u' => r = .returned (.tuple #[.int .i64 (s.size : Int), .nilIface]) ∧ SN w (⟨k, l ++ s.data.toList⟩ :: Bs) L u' := by
 obtain ⟨V, h1, h2, h3⟩ := h.ex
 refine (c_wstr s u (below_laid h.bel hL) (h1 _ (List.mem_cons_self ..)) (SN.not1 hL h3) hz).mono ?_
 rintro r u' ⟨rfl, ao, cap, h4, h5, h6⟩
 exact ⟨rfl, SN.step h.bel h.at_ h1 h2 h3 h4 h5 h6⟩
theorem SN.wbyte {w u : World} {k : Nat} {l : List UInt8} {Bs : List Bd} {L : List Blk} (h : SN w (⟨k, l⟩ :: Bs) L u) (hL : Laid w) (c : Int) (h0 : 0 ≤ c) (hc : c < 256) (hz : l.length + 1 ≤ 1000000) : Calls Tryz.prog 128 #[.pointer (some ⟨k, 0, none⟩), .int .u8 c] u fun r u' => r = .returned .nilIface ∧ SN w (⟨k, l ++ [UInt8.ofNat c.toNat]⟩ :: Bs) L u' := by
 obtain ⟨V, h1, h2, h3⟩ := h.ex
 refine (c_wbyte c u (below_laid h.bel hL) (h1 _ (List.mem_cons_self ..)) (SN.not1 hL h3) hz h0 hc).mono ?_
 rintro r u' ⟨rfl, ao, cap, h4, h5, h6⟩
 exact ⟨rfl, SN.step h.bel h.at_ h1 h2 h3 h4 h5 h6⟩
theorem SN.str {w u : World} {k : Nat} {l : List UInt8} {Bs : List Bd} {L : List Blk} (h : SN w (⟨k, l⟩ :: Bs) L u) (hL : Laid w) (h0 : l ≠ []) : Calls Tryz.prog 129 #[.pointer (some ⟨k, 0, none⟩)] u fun r u' => r = .returned (.string ⟨l.toArray⟩) ∧ SN w (⟨k, l⟩ :: Bs) L u' := by
 obtain ⟨V, h1, h2, h3⟩ := h.ex
 refine (c_bstr u (below_laid h.bel hL) (h1 _ (List.mem_cons_self ..)) (SN.not1 hL h3) h0).mono ?_
 rintro r u' ⟨rfl, ao, cap, h4, h5, h6⟩
 exact ⟨rfl, SN.step h.bel h.at_ h1 h2 h3 h4 h5 h6⟩
theorem SN.len {w u : World} {k : Nat} {l : List UInt8} {Bs : List Bd} {L : List Blk} (h : SN w (⟨k, l⟩ :: Bs) L u) (hL : Laid w) : Calls Tryz.prog 141 #[.pointer (some ⟨k, 0, none⟩)] u fun r u' => r = .returned (.int .i64 (l.length : Int)) ∧ SN w (⟨k, l⟩ :: Bs) L u' := by
 obtain ⟨V, h1, h2, h3⟩ := h.ex
 refine (c_blen u (below_laid h.bel hL) (h1 _ (List.mem_cons_self ..))).mono ?_
 rintro r u' ⟨rfl, h4⟩
 exact ⟨rfl, h.keep hL h4⟩
theorem SN.start2 {w u : World} {k1 k2 : Nat} {L : List Blk} (M : Mem ⟨w, []⟩ (⟨k1, .cells (av 2 bF0) 182⟩ :: ⟨k2, .cells (av 2 bF0) 182⟩ :: L) u) : SN w [⟨k1, []⟩, ⟨k2, []⟩] L u := by
 have hba : ∀ k, u.heap[k]? = some (.cells (av 2 bF0) 182) → BA u k none 0 [] := fun k h => ⟨.inl h, by simp [Lib.byteCells], .inl ⟨rfl, rfl⟩⟩
 refine ⟨below_grown M.old, fun b hb => M.at_ b (List.mem_cons_of_mem _ (List.mem_cons_of_mem _ hb)), fun _ => (none, 0), fun b hb => ?_, M.nodup, fun x hx => ?_⟩
 ·rcases List.mem_cons.1 hb with rfl | hb
  ·exact hba _ (M.get 0 rfl)
  ·rw [List.mem_singleton.1 hb]
   exact hba _ (M.get 1 rfl)
 ·have hx2 : x ∈ ((⟨k1, .cells (av 2 bF0) 182⟩ :: ⟨k2, .cells (av 2 bF0) 182⟩ :: L : List Blk).map Blk.g) := hx
  obtain ⟨b, hb, rfl⟩ := List.mem_map.1 hx2
  exact (M.ge b hb).elim id fun h => by cases h
end Go.Proofs.YtiahdbibeleakaaGreatDoor
namespace Go.Proofs.YtiahdbibeleakaaGreatDoor.Pol
open Go.RowKit
theorem inz33 : (Tryz.prog.info? 33).map (·.size) = some 1 := by kernel_rfl
theorem inz5 : (Tryz.prog.info? 5).map (·.size) = some 1 := by kernel_rfl
theorem inz192 : (Tryz.prog.info? 192).map (·.size) = some 5 := by kernel_rfl
theorem wrap64 {x : Int} (h0 : -9223372036854775808 ≤ x) (h1 : x < 9223372036854775808) : IntKind.wrap .i64 x = x := by
 simp [IntKind.wrap, IntKind.signed, IntKind.bits, go_sem]
 omega
theorem run_ixL {P : Program} {a : Act} {o : Oper} (t elem : TypeId) (hu : P.underlying t = some (.slice elem)) (hs : (P.info? elem).map (·.size) = some 1) (x ix : Operand) (ho : o.op = .indexAddr t x ix) (g off len cap : Nat) (hx : a.eval x = .slice (some ⟨g, off, none⟩) len cap) (k : IntKind) (i : Nat) (hi : a.eval ix = .int k (i : Int)) (hlt : i < len) (w : World) :
  (execOp a.eval o).run P w = .ok (.value (.pointer (some ⟨g, off + i, none⟩))) w := by
 cases hq : P.info? elem with
 | none => simp [hq] at hs
 | some u =>
  have hsz : u.size = 1 := by simpa [hq] using hs
  unfold execOp
  simp [ho, hx, hi, Instr.indexAt, asIntOf, run_underlying hu, sizeOf, typeInfo, hq, hsz, add_at, hlt]
theorem run_strl {P : Program} {a : Act} {o : Oper} (t : TypeId) (hu : P.underlying t = some .string) (x lo : Operand) (ho : o.op = .slice t x (some lo) none none) (s : Yb) (hx : a.eval x = .string s) (k : IntKind) (i : Nat) (hi : a.eval lo = .int k (i : Int)) (hle : i ≤ s.size) (v : Yb) (hv : s.extract i s.size = v) (w : World) :
  (execOp a.eval o).run P w = .ok (.value (.string v)) w := by
 subst hv
 unfold execOp
 simp [ho, hx, hi, run_sliceAt_string w t (.string s) (some (.int k i)) none none hu, run_slice_string_l w t s hu k i (by omega) (by omega)]
theorem run_strh {P : Program} {a : Act} {o : Oper} (t : TypeId) (hu : P.underlying t = some .string) (x hi : Operand) (ho : o.op = .slice t x none (some hi) none) (s : Yb) (hx : a.eval x = .string s) (k : IntKind) (i : Nat) (hh : a.eval hi = .int k (i : Int)) (hle : i ≤ s.size) (v : Yb) (hv : s.extract 0 i = v) (w : World) :
  (execOp a.eval o).run P w = .ok (.value (.string v)) w := by
 subst hv
 unfold execOp
 simp [ho, hx, hh, run_sliceAt_string w t (.string s) none (some (.int k i)) none hu, run_slice_string_h w t s hu k i (by omega) (by omega)]
theorem run_ixS {P : Program} {a : Act} {o : Oper} (t : TypeId) (hu : P.underlying t = some .string) (x ix : Operand) (ho : o.op = .index t x ix) (s : Yb) (hx : a.eval x = .string s) (k : IntKind) (i : Nat) (hi : a.eval ix = .int k (i : Int)) (hlt : i < s.size) (w : World) :
  (execOp a.eval o).run P w = .ok (.value (.int .u8 (bt s i))) w := by
 have e : s[i]? = some s[i] := ByteArray.getElem?_lt' s i hlt
 have e2 : bt s i = (s[i].toNat : Int) := by
  unfold bt
  rw [Array.getElem?_eq_getElem hlt]
  rfl
 unfold execOp
 simp [ho, hx, hi, Instr.index, asIntOf, run_underlying hu, e, e2]
def xb (x y : Int) : Int := IntKind.wrap .u8 (BitVec.ofInt 8 x ^^^ BitVec.ofInt 8 y).toNat
theorem sb_av (n : Nat) (F : NI) (T : TypeId) : SB (.cells (av n (w8 F)) T) n (vs8 ((List.range n).map F)) := ⟨_, T, (0, 0), rfl, by simp [vs8], by rw [av_size]; exact Nat.le_refl _, fun i hi => by
 simp [vs8] at hi
 simp [vs8, av, w8, hi], fun i _ => by simp⟩
theorem xb_nn (x y : Int) : 0 ≤ xb x y ∧ xb x y < 256 := by
 unfold xb
 simp [IntKind.wrap, IntKind.signed, IntKind.bits]
 omega
theorem quo26 (j : Nat) (hj : j < 1000000) : IntKind.wrap .i64 ((j : Int).tdiv 26) = ((j / 26 : Nat) : Int) := by
 rw [Int.tdiv_eq_ediv_of_nonneg (by omega), wrap64 (by omega) (by omega)]
 omega
theorem rem26 (n : Nat) : Int.tmod (n : Int) 26 = ((n % 26 : Nat) : Int) := by
 rw [Int.tmod_eq_emod_of_nonneg (by omega)]
 omega
def ob8 (x y : Int) : Int := IntKind.wrap .u8 (BitVec.ofInt 8 x ||| BitVec.ofInt 8 y).toNat
def nb8 (x y : Int) : Int := IntKind.wrap .u8 (BitVec.ofInt 8 x &&& BitVec.ofInt 8 y).toNat
def db8 (x y : Int) : Int := IntKind.wrap .u8 (BitVec.ofInt 8 x &&& ~~~ BitVec.ofInt 8 y).toNat
theorem run_shlU {P : Program} {a : Act} {o : Oper} (t rt : TypeId) (x y : Operand) (ho : o.op = .binOp .shl t x y rt) (k : Int) (ky : IntKind) (m : Nat) (hx : a.eval x = .int .u64 k) (hy : a.eval y = .int ky (m : Int)) (_hm : m ≤ 64) (w : World) :
  (execOp a.eval o).run P w = .ok (.value (.int .u64 (sl k m))) w := by
 unfold execOp sl
 simp [ho, hx, hy, eqGuard, binOp]
theorem run_shrU {P : Program} {a : Act} {o : Oper} (t rt : TypeId) (x y : Operand) (ho : o.op = .binOp .shr t x y rt) (k : Int) (ky : IntKind) (m : Nat) (hx : a.eval x = .int .u64 k) (hy : a.eval y = .int ky (m : Int)) (_hm : m ≤ 64) (w : World) :
  (execOp a.eval o).run P w = .ok (.value (.int .u64 (sr k m))) w := by
 have hp : (0 : Int) ≤ 2 ^ m := Int.le_of_lt (Int.pow_pos (by decide))
 unfold execOp sr
 rw [Int.fdiv_eq_ediv_of_nonneg k hp]
 simp [ho, hx, hy, eqGuard, binOp]
theorem run_slL {P : Program} {a : Act} {o : Oper} (t e : TypeId) (hu : P.underlying t = some (.slice e)) (hs : (P.info? e).map (·.size) = some 1) (x lo : Operand) (ho : o.op = .slice t x (some lo) none none) (g off len cap : Nat) (hx : a.eval x = .slice (some ⟨g, off, none⟩) len cap) (k : IntKind) (i : Nat) (hi : a.eval lo = .int k (i : Int)) (hlt : i < cap) (hle : i ≤ len) (w : World) :
  (execOp a.eval o).run P w = .ok (.value (.slice (some ⟨g, off + i, none⟩) (len - i) (cap - i))) w := by
 cases hq : P.info? e with
 | none => simp [hq] at hs
 | some u =>
  have hsz : u.size = 1 := by simpa [hq] using hs
  have hne : ¬ cap = i := by omega
  unfold execOp
  simp [ho, hx, hi, Instr.sliceAt, Instr.slice, run_underlying hu, Instr.sliceBounds, run_sliceBound, sizeOf, typeInfo, hq, hsz, add_at, hne, hle]
theorem run_slM {P : Program} {a : Act} {o : Oper} (t e : TypeId) (hu : P.underlying t = some (.slice e)) (hs : (P.info? e).map (·.size) = some 1) (x lo hi mx : Operand) (ho : o.op = .slice t x (some lo) (some hi) (some mx)) (g off len cap : Nat) (hx : a.eval x = .slice (some ⟨g, off, none⟩) len cap) (k k' k2 : IntKind) (i j : Nat) (hi1 : a.eval lo = .int k (i : Int)) (hi2 : a.eval hi = .int k' (j : Int)) (hi3 : a.eval mx = .int k2 (j : Int)) (hlt : i < j) (hle : j ≤ cap) (w : World) :
  (execOp a.eval o).run P w = .ok (.value (.slice (some ⟨g, off + i, none⟩) (j - i) (j - i))) w := by
 cases hq : P.info? e with
 | none => simp [hq] at hs
 | some u =>
  have hsz : u.size = 1 := by simpa [hq] using hs
  have hne : ¬ j = i := by omega
  have hle2 : i ≤ j := by omega
  unfold execOp
  simp [ho, hx, hi1, hi2, hi3, Instr.sliceAt, Instr.slice, run_underlying hu, Instr.sliceBounds, run_sliceBound, sizeOf, typeInfo, hq, hsz, add_at, hne, hle, hle2]
section
variable {P : Program} {ops : Array Oper} {rest : List Oper} {o : Oper} {a : Act} {w : World} {c : Ctx} {L : List Blk} {Q : Exit → Act → World → Prop}
theorem pl_copyC (M : Mem c L w) (hw : Region.wanted o (yielded ops a.tmps) = true) (d : Option Tmp) (hd : o.dst = d) (dT sT ty elem : TypeId) (hu : P.underlying dT = some (.slice elem)) (hz : (P.info? elem).map (·.size) = some 1) (i g n T : Nat) (F : NV) (hi : L[i]? = some ⟨g, .cells (av n F) T⟩) (g2 : Nat) (F2 : NV) (od dl dc os sl sc k : Nat) (hk : k = Nat.min sl dl) (hd1 : od + k ≤ n) (hsrc : ∀ w, Mem c L w → ∀ j, j < k → w.cell? ⟨g2, os + j, none⟩ = some (F2 j)) (h1 : ∀ j, (F2 j).oneCell' = true) (Fn : NV) (hfn : ∀ j, j < n → (if od ≤ j ∧ j < od + k then F2 (j - od) else F j) = Fn j)
  (hrun : ∀ w, (execOp a.eval o).run P w = (do pure (Next.value (← Builtin.copy_ #[dT, sT] ty #[.slice (some ⟨g, od, none⟩) dl dc, .slice (some ⟨g2, os, none⟩) sl sc]))).run P w)
  (h : ∀ w', Mem c (L.set i ⟨g, .cells (av n Fn) T⟩) w' → PL P ops Q rest (a.put d (goInt k)) w') : PL P ops Q (o :: rest) a w := by
 have R := M.get i hi
 have hl : (av k F2).toList.length = k := by simp [av_size]
 have hr := run_copy_cells (P := P) w dT sT ty elem g od dl dc ⟨g2, os, none⟩ sl sc (av k F2).toList hu hz (by rw [hl, hk])
  (fun j v hv => by
   obtain ⟨hj, rfl⟩ := av_toList_get _ _ _ _ hv
   rw [add_at]
   exact hsrc w M j hj)
  (fun j hj => by rw [hl] at hj; rw [cell_av R (by omega)]; rfl) (fun j hj => free_av R _)
  (fun v hv => by
   obtain ⟨j, hj⟩ := List.mem_iff_getElem?.1 hv
   obtain ⟨hj', rfl⟩ := av_toList_get _ _ _ _ hj
   exact h1 _)
 rw [hl] at hr
 refine pl_to hw d hd (goInt k) _ ?_ (h _ (M.put i ⟨g, _⟩ hi _ (grown_setCells g _ _ _) (by rw [heap_setCells g T _ w _ od R, setAll_av n F F2 Fn od k hd1 hfn])))
 rw [hrun]
 simp only [Sem.run_bind, hr, Result.andThen_ok, Sem.run_pure]
end
theorem min_if (x y : Nat) : (if (y : Int) < (x : Int) then (y : Int) else (x : Int)) = ((min x y : Nat) : Int) := by
 by_cases h : y < x
 ·rw [if_pos (by omega), Nat.min_eq_right (by omega)]
 ·rw [if_neg (by omega), Nat.min_eq_left (by omega)]
open Go.RowKit
def cy (sh : Nat) (a : NI) : Nat → Int
 | 0 => 0
 | j + 1 => sr (ua (a j) (cy sh a j)) sh
def st (m : Int) (sh : Nat) (a : NI) : Nat → (Nat → Int)
 | 0 => a
 | j + 1 => upd (st m sh a j) j (un (ua (a j) (cy sh a j)) m)
def s5 (a : NI) : Nat → Int := st 67108863 26 a 5
def c5 (a : NI) : Int := cy 26 a 5
theorem c_settled (x : NI) (w : World) (hL : Laid w)  : Cs 164 #[.agg (av 5 (w64 x))] w (.tuple #[.agg (av 5 (w64 (s5 x))), .int .u64 (c5 x)]) := by
 go_enter Tryz.func164, Tryz.ntmps164
 have M := Mem.start hL
 refine sR ?_
 refine pN M 1 (.cells (av 5 (w64 x)) 192) fun g1 u1 M => ?_
 refine pN M 2 (.cells (av 5 (w64 (fun _ => 0))) 192) fun g2 u2 M => ?_
 refine rV 1 <| nT <| sq <| wp_seq <| sR ?_
 refine pA M 7 0 5 (w64 x) ?_
 refine rV 1 <| nT ?_
 refine wp_block ?_
 refine au_loop (fun j a w' => ∃ v1 : NV, a = (fm ([.agg (av 5 (w64 x)), .pointer (some ⟨g1, 0, none⟩), .pointer (some ⟨g2, 0, none⟩), .int .u64 0, .int .u64 (cy 26 x j)] ++ vr v1 5 2 ++ [.agg (av 5 (w64 x)), .int .i64 (j : Int)] ++ vr v1 9 15)) ∧ Mem ⟨w, []⟩ [⟨g1, .cells (av 5 (w64 (st 67108863 26 x j))) 192⟩, ⟨g2, .cells (av 5 (w64 (fun _ => 0))) 192⟩] w') 5 (exS M) ?_ ?_
 ·intro j a u0 hj hI
  obtain ⟨v1, rfl, M⟩ := hI
  refine sR ?_
  refine ZT 9 ((j : Int) < 5) ?_
  refine nT <| wp_seq <| cT <| wp_skip <| au_then ?_
  refine wp_seq ?_
  refine wp_block ?_
  refine sR <| rV 1 ?_
  refine pH 11 (.int .u64 (x (j))) (run_ixA 192 5 33 Tryz.underlying192 inz33 (fun _ => by kernel_rfl) _ _ rfl (w64 x) (by kernel_rfl) .i64 (j) (by kernel_rfl) (by omega) rfl) ?_
  refine rV 2 <| nT <| sq ?_
  refine rg_lit ?_
  refine rV 5 ?_
  refine ZX 20 .i64 g1 (j) 5 ?_
  refine ZP64 M 0 j (un (ua (x (j)) (cy 26 x j)) 67108863) fun u3 M => ?_
  refine rV 1 ?_
  refine pl_nil ?_
  refine au_block ?_
  refine au_then ?_
  refine rg_lit ?_
  refine ZI 21 ((j : Int) + 1) ((j + 1 : Nat) : Int) ?_
  refine rV 1 <| nT ?_
  exact exS M
 ·intro a u0 hI
  obtain ⟨v1, rfl, M⟩ := hI
  refine sR ?_
  refine ZF 9 (5 < 5) ?_
  refine nT <| wp_seq <| cF ?_
  refine wp_exit ?_
  refine au_then_exit ?_
  refine au_then_exit ?_
  refine au_block_exit ?_
  refine au_then <| sR ?_
  refine pA M 22 0 5 (w64 (st 67108863 26 x 5)) ?_
  refine rV 1 ?_
  refine ZG M 1 5 (w64 (st 67108863 26 x 5)) fun u4 M => ?_
  refine rV 1 <| nT <| wp_ret ?_
  exact bct Tryz.results164 M 1 5 (w64 (st 67108863 26 x 5)) (.int .u64 (cy 26 x 5)) ⟨rfl, below_grown M.old⟩
def cr1 (a : NI) : Nat → Int := upd (s5 a) 0 (ua (s5 a 0) (um (c5 a) 5))
def crr (a : NI) : Nat → (Nat → Int)
 | 0 => a
 | j + 1 => cr1 (crr a j)
def crF (a : NI) : Nat → Int := cr1 (cr1 a)
theorem c_carried (x : NI) (w : World) (hL : Laid w)  : Cs 163 #[.agg (av 5 (w64 x))] w (.agg (av 5 (w64 (crF x)))) := by
 go_enter Tryz.func163, Tryz.ntmps163
 have M := Mem.start hL
 refine sR ?_
 refine pN M 1 (.cells (av 5 (w64 x)) 192) fun g1 u1 M => ?_
 refine pN M 2 (.cells (av 5 (w64 (fun _ => 0))) 192) fun g2 u2 M => ?_
 refine nT <| wp_seq <| sq ?_
 refine wp_block ?_
 refine au_loop (fun j a w' => ∃ v1 : NV, a = (fm ([.agg (av 5 (w64 x)), .pointer (some ⟨g1, 0, none⟩), .pointer (some ⟨g2, 0, none⟩)] ++ vr v1 3 2 ++ [.int .i64 (j : Int)] ++ vr v1 6 15)) ∧ Mem ⟨w, []⟩ [⟨g1, .cells (av 5 (w64 (crr x j))) 192⟩, ⟨g2, .cells (av 5 (w64 (fun _ => 0))) 192⟩] w') 2 (exS M) ?_ ?_
 ·intro j a u0 hj hI
  obtain ⟨v1, rfl, M⟩ := hI
  refine sR ?_
  refine ZT 6 ((j : Int) < 2) ?_
  refine nT <| wp_seq <| cT <| wp_skip <| au_then ?_
  refine wp_seq ?_
  refine wp_block ?_
  refine sR ?_
  refine pA M 8 0 5 (w64 (crr x j)) ?_
  refine ZC M 9 (fun w M => c_settled (crr x j) w M.laid) fun u3 M => ?_
  refine rV 3 ?_
  refine pN M 3 (.cells (av 5 (w64 (fun _ => 0))) 192) fun g3 u4 M => ?_
  refine ZG M 2 5 (w64 (s5 (crr x j))) fun u5 M => ?_
  refine rV 1 <| nT <| sR <| rV 1 <| ZE M 13 2 0 ?_
  refine rV 4 ?_
  refine ZP64 M 2 0 (ua ((s5 (crr x j)) 0) (um (c5 (crr x j)) 5)) fun u6 M => ?_
  refine nT ?_
  refine rg_lit ?_
  refine pA M 18 2 5 (w64 (upd (s5 (crr x j)) 0 (ua ((s5 (crr x j)) 0) (um (c5 (crr x j)) 5)))) ?_
  refine ZG M 0 5 (w64 (upd (s5 (crr x j)) 0 (ua ((s5 (crr x j)) 0) (um (c5 (crr x j)) 5)))) fun u7 M => ?_
  refine pl_nil ?_
  refine au_block ?_
  refine au_then ?_
  refine rg_lit ?_
  refine ZI 19 ((j : Int) + 1) ((j + 1 : Nat) : Int) ?_
  refine rV 1 <| nT ?_
  exact exS (M.drop (.cons_cons _ (.cons_cons _ (.cons _ (.slnil)))))
 ·intro a u0 hI
  obtain ⟨v1, rfl, M⟩ := hI
  refine sR ?_
  refine ZF 6 (2 < 2) ?_
  refine nT <| wp_seq <| cF ?_
  refine wp_exit ?_
  refine au_then_exit ?_
  refine au_then_exit ?_
  refine au_block_exit ?_
  refine au_then <| sR ?_
  refine pA M 20 0 5 (w64 (crr x 2)) ?_
  refine ZG M 1 5 (w64 (crr x 2)) fun u8 M => ?_
  refine nT <| wp_ret ?_
  exact bc Tryz.results163 M 1 5 (w64 (crr x 2)) ⟨rfl, below_grown M.old⟩
def pls (a b : NI) : Nat → (Nat → Int)
 | 0 => a
 | j + 1 => upd (pls a b j) j (ua (pls a b j j) (b j))
def plF (a b : NI) : Nat → Int := pls a b 5
theorem c_plus (x y : NI) (w : World) (hL : Laid w)  : Cs 135 #[.agg (av 5 (w64 x)), .agg (av 5 (w64 y))] w (.agg (av 5 (w64 (plF x y)))) := by
 go_enter Tryz.func135, Tryz.ntmps135
 have M := Mem.start hL
 refine sR ?_
 refine pN M 2 (.cells (av 5 (w64 x)) 192) fun g1 u1 M => ?_
 refine pN M 3 (.cells (av 5 (w64 y)) 192) fun g2 u2 M => ?_
 refine pN M 4 (.cells (av 5 (w64 (fun _ => 0))) 192) fun g3 u3 M => ?_
 refine nT <| wp_seq <| sq ?_
 refine wp_block ?_
 refine au_loop (fun j a w' => ∃ v1 : NV, a = (fm ([.agg (av 5 (w64 x)), .agg (av 5 (w64 y)), .pointer (some ⟨g1, 0, none⟩), .pointer (some ⟨g2, 0, none⟩), .pointer (some ⟨g3, 0, none⟩), v1 5, .int .i64 (j : Int)] ++ vr v1 7 12)) ∧ Mem ⟨w, []⟩ [⟨g1, .cells (av 5 (w64 (pls x y j))) 192⟩, ⟨g2, .cells (av 5 (w64 y)) 192⟩, ⟨g3, .cells (av 5 (w64 (fun _ => 0))) 192⟩] w') 5 (exS M) ?_ ?_
 ·intro j a u0 hj hI
  obtain ⟨v1, rfl, M⟩ := hI
  refine sR ?_
  refine ZT 7 ((j : Int) < 5) ?_
  refine nT <| wp_seq <| cT <| wp_skip <| au_then ?_
  refine wp_seq ?_
  refine wp_block ?_
  refine sq ?_
  refine rg_tail M 8 (by kernel_rfl) (by kernel_rfl) ?_
  simp only [List.take_succ_cons, List.take_zero]
  refine kR 1 ?_
  refine eX 10 .i64 g1 (j) 5 ?_
  refine eE M 11 0 j ?_
  refine kR 1 ?_
  refine eX 13 .i64 g2 (j) 5 ?_
  refine eE M 14 1 j ?_
  refine kR 1 ?_
  refine eX 16 .i64 g1 (j) 5 ?_
  refine kl_nil fun u4 M => ?_
  refine ZP64 M 0 j (ua ((pls x y j) j) (y j)) fun u5 M => ?_
  refine pl_nil ?_
  refine au_block ?_
  refine au_then ?_
  refine rg_lit ?_
  refine ZI 17 ((j : Int) + 1) ((j + 1 : Nat) : Int) ?_
  refine rV 1 <| nT ?_
  exact exS M
 ·intro a u0 hI
  obtain ⟨v1, rfl, M⟩ := hI
  refine sR ?_
  refine ZF 7 (5 < 5) ?_
  refine nT <| wp_seq <| cF ?_
  refine wp_exit ?_
  refine au_then_exit ?_
  refine au_then_exit ?_
  refine au_block_exit ?_
  refine au_then <| sR ?_
  refine pA M 18 0 5 (w64 (pls x y 5)) ?_
  refine ZG M 2 5 (w64 (pls x y 5)) fun u6 M => ?_
  refine nT <| wp_ret ?_
  exact bc Tryz.results135 M 2 5 (w64 (pls x y 5)) ⟨rfl, below_grown M.old⟩
def mo5 (a : NI) : Nat → Int := upd a 0 (ua (a 0) 5)
def lsF (a : NI) : Nat → Int := s5 (upd a 0 (ua (a 0) (um (c5 (mo5 a)) 5)))
theorem c_least (x : NI) (w : World) (hL : Laid w)  : Cs 138 #[.agg (av 5 (w64 x))] w (.agg (av 5 (w64 (lsF x)))) := by
 go_enter Tryz.func138, Tryz.ntmps138
 have M := Mem.start hL
 refine sR ?_
 refine pN M 1 (.cells (av 5 (w64 x)) 192) fun g1 u1 M => ?_
 refine pN M 2 (.cells (av 5 (w64 (fun _ => 0))) 192) fun g2 u2 M => ?_
 refine nT <| sR ?_
 refine pA M 6 0 5 (w64 x) ?_
 refine pN M 3 (.cells (av 5 (w64 (fun _ => 0))) 192) fun g3 u3 M => ?_
 refine ZG M 2 5 (w64 x) fun u4 M => ?_
 refine nT <| sR <| rV 1 <| ZE M 8 2 0 <| rV 2 ?_
 refine ZP64 M 2 0 (ua (x 0) 5) fun u5 M => ?_
 refine nT <| sR ?_
 refine pA M 12 2 5 (w64 (mo5 x)) ?_
 refine ZC M 13 (fun w M => c_settled (mo5 x) w M.laid) fun u6 M => ?_
 refine rV 3 ?_
 refine pN M 4 (.cells (av 5 (w64 (fun _ => 0))) 192) fun g4 u7 M => ?_
 refine ZG M 3 5 (w64 (s5 (mo5 x))) fun u8 M => ?_
 refine rV 1 <| nT <| sR <| rV 1 <| ZE M 17 0 0 ?_
 refine rV 4 ?_
 refine ZP64 M 0 0 (ua (x 0) (um (c5 (mo5 x)) 5)) fun u9 M => ?_
 refine nT <| sR ?_
 refine pA M 23 0 5 (w64 (upd x 0 (ua (x 0) (um (c5 (mo5 x)) 5)))) ?_
 refine ZC M 24 (fun w M => c_settled (upd x 0 (ua (x 0) (um (c5 (mo5 x)) 5))) w M.laid) fun u10 M => ?_
 refine rV 3 ?_
 refine ZG M 0 5 (w64 (s5 (upd x 0 (ua (x 0) (um (c5 (mo5 x)) 5))))) fun u11 M => ?_
 refine nT <| sR ?_
 refine pA M 27 0 5 (w64 (s5 (upd x 0 (ua (x 0) (um (c5 (mo5 x)) 5))))) ?_
 refine ZG M 1 5 (w64 (s5 (upd x 0 (ua (x 0) (um (c5 (mo5 x)) 5))))) fun u12 M => ?_
 refine nT <| wp_ret ?_
 exact bc Tryz.results138 M 1 5 (w64 (s5 (upd x 0 (ua (x 0) (um (c5 (mo5 x)) 5))))) ⟨rfl, below_grown M.old⟩
def nof (p : NI) : Nat → (Nat → Int)
 | 0 => fun _ => 0
 | j + 1 => upd (nof p j) (8 * j / 26) (uo (nof p j (8 * j / 26)) (sl (cv .u64 (p j)) (8 * j % 26)))
def noF (p : NI) : Nat → Int := s5 (nof p 17)
theorem c_number (p : NI) (w : World) (hL : Laid w)  : Cs 161 #[.agg (av 17 (w8 p))] w (.agg (av 5 (w64 (noF p)))) := by
 go_enter Tryz.func161, Tryz.ntmps161
 have M := Mem.start hL
 refine sR ?_
 refine pN M 1 (.cells (av 17 (w8 p)) 221) fun g1 u1 M => ?_
 refine pN M 2 (.cells (av 5 (w64 (fun _ => 0))) 192) fun g2 u2 M => ?_
 refine nT <| sR ?_
 refine pN M 3 (.cells (av 5 (w64 (fun _ => 0))) 192) fun g3 u3 M => ?_
 refine nT <| wp_seq <| sR ?_
 refine pA M 6 0 17 (w8 p) ?_
 refine rV 1 <| nT ?_
 refine wp_block ?_
 refine au_loop (fun j a w' => ∃ v1 : NV, a = (fm ([.agg (av 17 (w8 p)), .pointer (some ⟨g1, 0, none⟩), .pointer (some ⟨g2, 0, none⟩), .pointer (some ⟨g3, 0, none⟩)] ++ vr v1 4 2 ++ [.agg (av 17 (w8 p)), .int .i64 (j : Int)] ++ vr v1 8 23)) ∧ Mem ⟨w, []⟩ [⟨g1, .cells (av 17 (w8 p)) 221⟩, ⟨g2, .cells (av 5 (w64 (fun _ => 0))) 192⟩, ⟨g3, .cells (av 5 (w64 (nof p j))) 192⟩] w') 17 (exS M) ?_ ?_
 ·intro j a u0 hj hI
  obtain ⟨v1, rfl, M⟩ := hI
  refine sR ?_
  refine ZT 8 ((j : Int) < 17) ?_
  refine nT <| wp_seq <| cT <| wp_skip <| au_then ?_
  refine wp_seq ?_
  refine wp_block ?_
  refine sR <| rV 1 ?_
  refine pH 10 (.int .u8 (p (j))) (run_ixA 221 17 5 Tryz.underlying221 inz5 (fun _ => by kernel_rfl) _ _ rfl (w8 p) (by kernel_rfl) .i64 (j) (by kernel_rfl) (by omega) rfl) ?_
  refine rV 2 <| nT ?_
  refine rg_tail M 13 (by kernel_rfl) (by kernel_rfl) ?_
  simp only [List.take_succ_cons, List.take_zero]
  refine kR 1 ?_
  refine eI 12 (8 * (j : Int)) ((8 * j : Nat) : Int) ?_
  refine eQ 13 .i64 (IntKind.wrap .i64 (((8 * j : Nat) : Int).tdiv 26)) (quo26 (8 * j) (by omega)) ?_
  refine eX 14 .i64 g3 ((8 * j / 26 : Nat)) 5 ?_
  refine eE M 15 2 ((8 * j / 26 : Nat)) ?_
  refine kR 3 ?_
  refine eI 19 (8 * (j : Int)) ((8 * j : Nat) : Int) ?_
  refine eQ 20 .i64 (Int.tmod ((8 * j : Nat) : Int) 26) (rem26 (8 * j)) ?_
  refine kH 21 (.int .u64 (sl (cv .u64 (p j)) (8 * j % 26))) (run_shlU 33 3 _ _ rfl _ .i64 (8 * j % 26) (by kernel_rfl) (by kernel_rfl) (by omega)) ?_
  refine kR 1 ?_
  refine eX 23 .i64 g3 ((8 * j / 26 : Nat)) 5 ?_
  refine kl_nil fun u4 M => ?_
  refine ZP64 M 2 ((8 * j / 26 : Nat)) (uo ((nof p j) ((8 * j / 26 : Nat))) (sl (cv .u64 (p j)) (8 * j % 26))) fun u5 M => ?_
  refine pl_nil ?_
  refine au_block ?_
  refine au_then ?_
  refine rg_lit ?_
  refine ZI 24 ((j : Int) + 1) ((j + 1 : Nat) : Int) ?_
  refine rV 1 <| nT ?_
  exact exS M
 ·intro a u0 hI
  obtain ⟨v1, rfl, M⟩ := hI
  refine sR ?_
  refine ZF 8 (17 < 17) ?_
  refine nT <| wp_seq <| cF ?_
  refine wp_exit ?_
  refine au_then_exit ?_
  refine au_then_exit ?_
  refine au_block_exit ?_
  refine au_then <| sR ?_
  refine pA M 26 2 5 (w64 (nof p 17)) ?_
  refine ZC M 27 (fun w M => c_settled (nof p 17) w M.laid) fun u6 M => ?_
  refine rV 3 ?_
  refine ZG M 2 5 (w64 (s5 (nof p 17))) fun u7 M => ?_
  refine nT <| sR ?_
  refine pA M 30 2 5 (w64 (s5 (nof p 17))) ?_
  refine ZG M 1 5 (w64 (s5 (nof p 17))) fun u8 M => ?_
  refine nT <| wp_ret ?_
  exact bc Tryz.results161 M 1 5 (w64 (s5 (nof p 17))) ⟨rfl, below_grown M.old⟩
def pd (b : NI) (n : Nat) : Nat → Int := fun i => if i < n then b i else 0
theorem pd_fn (b : NI) (n : Nat) (j : Nat) : (if 0 ≤ j ∧ j < 0 + n then w8 b (j - 0) else w8 (fun _ => 0) j) = w8 (pd b n) j := by
 unfold w8 pd
 by_cases h : j < n
 ·rw [if_pos (by omega), if_pos h, Nat.sub_zero]
 ·rw [if_neg (by omega), if_neg h]
def fc1 (p : NI) : Nat → Int := upd (upd (upd (upd p 3 (nb8 (p 3) 15)) 7 (nb8 (p 7) 15)) 11 (nb8 (p 11) 15)) 15 (nb8 (p 15) 15)
def fc2 (p : NI) : Nat → Int := upd (upd (upd p 4 (db8 (p 4) 3)) 8 (db8 (p 8) 3)) 12 (db8 (p 12) 3)
def mk (b : NI) (n : Nat) : Nat → Int := upd (pd b n) n 1
theorem c_plain (s : Yb) (hs : s.size = 16) (w : World) (hL : Laid w)  : Cs 133 #[.string s] w (.agg (av 5 (w64 (noF (pd (bt s) 16))))) := by
 go_enter Tryz.func133, Tryz.ntmps133
 have M := Mem.start hL
 refine sR ?_
 refine pN M 2 (.cells (av 5 (w64 (fun _ => 0))) 192) fun g1 u1 M => ?_
 refine nT <| sR ?_
 refine pN M 3 (.cells (av 17 (w8 (fun _ => 0))) 221) fun g2 u2 M => ?_
 refine nT <| sR <| rV 2 ?_
 refine pl_copyS M (want_no rfl) (some 6) rfl 44 9 3 5 Tryz.underlying44 inz5 1 g2 17 221 (w8 (fun _ => 0)) rfl 0 17 17 s 16 (by rw [hs]; decide) (by decide) (w8 (pd (bt s) 16)) (fun j _ => pd_fn (bt s) 16 j) (fun _ => by kernel_rfl) fun u3 M => ?_
 refine nT <| sR ?_
 refine pA M 7 1 17 (w8 (pd (bt s) 16)) ?_
 refine ZC M 8 (fun w M => c_number (pd (bt s) 16) w M.laid) fun u4 M => ?_
 refine ZG M 0 5 (w64 (noF (pd (bt s) 16))) fun u5 M => ?_
 refine nT <| wp_ret ?_
 exact bc Tryz.results133 M 0 5 (w64 (noF (pd (bt s) 16))) ⟨rfl, below_grown M.old⟩
theorem c_factor (s : Yb) (hs : s.size = 16) (w : World) (hL : Laid w)  : Cs 132 #[.string s] w (.agg (av 5 (w64 (noF (fc2 (fc1 (pd (bt s) 16))))))) := by
 go_enter Tryz.func132, Tryz.ntmps132
 have M := Mem.start hL
 refine sR ?_
 refine pN M 2 (.cells (av 5 (w64 (fun _ => 0))) 192) fun g1 u1 M => ?_
 refine nT <| sR ?_
 refine pN M 3 (.cells (av 17 (w8 (fun _ => 0))) 221) fun g2 u2 M => ?_
 refine nT <| sR <| rV 2 ?_
 refine pl_copyS M (want_no rfl) (some 8) rfl 44 9 3 5 Tryz.underlying44 inz5 1 g2 17 221 (w8 (fun _ => 0)) rfl 0 17 17 s 16 (by rw [hs]; decide) (by decide) (w8 (pd (bt s) 16)) (fun j _ => pd_fn (bt s) 16 j) (fun _ => by kernel_rfl) fun u3 M => ?_
 refine nT <| wp_seq <| sq ?_
 refine wp_block ?_
 refine wp_loop_rounds 5 ?_
 refine rounds_go ?_
 refine wp_seq <| sq <| cT <| wp_skip <| au_then ?_
 refine wp_seq ?_
 refine wp_block ?_
 refine rg_lit ?_
 refine rV 2 <| ZE M 15 1 3 <| rV 2 ?_
 refine ZP8 M 1 3 (nb8 ((pd (bt s) 16) 3) 15) fun u4 M => ?_
 refine pl_nil ?_
 refine au_block ?_
 refine au_then ?_
 refine rg_lit ?_
 refine rV 3 <| nT ?_
 refine rounds_go ?_
 refine wp_seq <| sq <| cT <| wp_skip <| au_then ?_
 refine wp_seq ?_
 refine wp_block ?_
 refine rg_lit ?_
 refine rV 2 <| ZE M 15 1 7 <| rV 2 ?_
 refine ZP8 M 1 7 (nb8 ((pd (bt s) 16) 7) 15) fun u5 M => ?_
 refine pl_nil ?_
 refine au_block ?_
 refine au_then ?_
 refine rg_lit ?_
 refine rV 3 <| nT ?_
 refine rounds_go ?_
 refine wp_seq <| sq <| cT <| wp_skip <| au_then ?_
 refine wp_seq ?_
 refine wp_block ?_
 refine rg_lit ?_
 refine rV 2 <| ZE M 15 1 11 <| rV 2 ?_
 refine ZP8 M 1 11 (nb8 ((pd (bt s) 16) 11) 15) fun u6 M => ?_
 refine pl_nil ?_
 refine au_block ?_
 refine au_then ?_
 refine rg_lit ?_
 refine rV 3 <| nT ?_
 refine rounds_go ?_
 refine wp_seq <| sq <| cT <| wp_skip <| au_then ?_
 refine wp_seq ?_
 refine wp_block ?_
 refine rg_lit ?_
 refine rV 2 <| ZE M 15 1 15 <| rV 2 ?_
 refine ZP8 M 1 15 (nb8 ((pd (bt s) 16) 15) 15) fun u7 M => ?_
 refine pl_nil ?_
 refine au_block ?_
 refine au_then ?_
 refine rg_lit ?_
 refine rV 3 <| nT ?_
 refine rounds_go ?_
 refine wp_seq <| sq <| cF ?_
 refine wp_exit ?_
 refine au_then_exit ?_
 refine au_then_exit ?_
 refine au_block_exit ?_
 refine au_then <| wp_seq <| sR <| rV 1 <| nT ?_
 refine wp_block ?_
 refine wp_loop_rounds 4 ?_
 refine rounds_go ?_
 refine wp_seq <| sq <| cT <| wp_skip <| au_then ?_
 refine wp_seq ?_
 refine wp_block ?_
 refine rg_lit ?_
 refine rV 2 <| ZE M 24 1 4 <| rV 2 ?_
 refine ZP8 M 1 4 (db8 ((fc1 (pd (bt s) 16)) 4) 3) fun u8 M => ?_
 refine pl_nil ?_
 refine au_block ?_
 refine au_then ?_
 refine rg_lit ?_
 refine rV 3 <| nT ?_
 refine rounds_go ?_
 refine wp_seq <| sq <| cT <| wp_skip <| au_then ?_
 refine wp_seq ?_
 refine wp_block ?_
 refine rg_lit ?_
 refine rV 2 <| ZE M 24 1 8 <| rV 2 ?_
 refine ZP8 M 1 8 (db8 ((fc1 (pd (bt s) 16)) 8) 3) fun u9 M => ?_
 refine pl_nil ?_
 refine au_block ?_
 refine au_then ?_
 refine rg_lit ?_
 refine rV 3 <| nT ?_
 refine rounds_go ?_
 refine wp_seq <| sq <| cT <| wp_skip <| au_then ?_
 refine wp_seq ?_
 refine wp_block ?_
 refine rg_lit ?_
 refine rV 2 <| ZE M 24 1 12 <| rV 2 ?_
 refine ZP8 M 1 12 (db8 ((fc1 (pd (bt s) 16)) 12) 3) fun u10 M => ?_
 refine pl_nil ?_
 refine au_block ?_
 refine au_then ?_
 refine rg_lit ?_
 refine rV 3 <| nT ?_
 refine rounds_go ?_
 refine wp_seq <| sq <| cF ?_
 refine wp_exit ?_
 refine au_then_exit ?_
 refine au_then_exit ?_
 refine au_block_exit ?_
 refine au_then <| sR ?_
 refine pA M 27 1 17 (w8 (fc2 (fc1 (pd (bt s) 16)))) ?_
 refine ZC M 28 (fun w M => c_number (fc2 (fc1 (pd (bt s) 16))) w M.laid) fun u11 M => ?_
 refine ZG M 0 5 (w64 (noF (fc2 (fc1 (pd (bt s) 16))))) fun u12 M => ?_
 refine nT <| wp_ret ?_
 exact bc Tryz.results132 M 0 5 (w64 (noF (fc2 (fc1 (pd (bt s) 16))))) ⟨rfl, below_grown M.old⟩
theorem c_marked (b : NI) (n : Nat) (hn : n ≤ 16) (gq off cap : Nat) (w : World) (hL : Laid w) (hsrc : ∀ j, j < n → w.cell? ⟨gq, off + j, none⟩ = some (w8 b j)) : Cs 136 #[.slice (some ⟨gq, off, none⟩) n cap] w (.agg (av 5 (w64 (noF (mk b n))))) := by
 go_enter Tryz.func136, Tryz.ntmps136
 have M := Mem.start hL
 refine sR ?_
 refine pN M 2 (.cells (av 5 (w64 (fun _ => 0))) 192) fun g1 u1 M => ?_
 refine nT <| sR ?_
 refine pN M 3 (.cells (av 17 (w8 (fun _ => 0))) 221) fun g2 u2 M => ?_
 refine nT <| sR <| rV 2 ?_
 refine pl_copyC M (want_no rfl) (some 6) rfl 44 44 3 5 Tryz.underlying44 inz5 1 g2 17 221 (w8 (fun _ => 0)) rfl gq (w8 b) 0 17 17 off n cap n (Nat.min_eq_left (by omega)).symm (by omega) (fun w M j hj => M.oldc (hsrc j hj) (by simp)) (fun _ => rfl) (w8 (pd b n)) (fun j _ => pd_fn b n j) (fun _ => by kernel_rfl) fun u3 M => ?_
 refine ZX 7 .i64 g2 (n) 17 ?_
 refine ZP8 M 1 n 1 fun u4 M => ?_
 refine nT <| sR ?_
 refine pA M 8 1 17 (w8 (mk b n)) ?_
 refine ZC M 9 (fun w M => c_number (mk b n) w M.laid) fun u5 M => ?_
 refine ZG M 0 5 (w64 (noF (mk b n))) fun u6 M => ?_
 refine nT <| wp_ret ?_
 exact bc Tryz.results136 M 0 5 (w64 (noF (mk b n))) ⟨rfl, below_grown M.old⟩
def p6 (a : NI) : Nat → Int := fun i => if i < 5 then a i else 0
theorem p6_fn (a : NI) (j : Nat) : (if 0 ≤ j ∧ j < 0 + 5 then w64 a (0 + (j - 0)) else w64 (fun _ => 0) j) = w64 (p6 a) j := by
 unfold w64 p6
 by_cases h : j < 5
 ·rw [if_pos (by omega), if_pos h, Nat.sub_zero, Nat.zero_add]
 ·rw [if_neg (by omega), if_neg h]
def tb (a : NI) (i : Nat) : Int := cv .u8 (sr (uo (p6 a (8 * i / 26)) (sl (p6 a (8 * i / 26 + 1)) 26)) (8 * i % 26))
def tbs (a : NI) : Nat → (Nat → Int)
 | 0 => fun _ => 0
 | j + 1 => upd (tbs a j) j (tb a j)
theorem cv8_nn (x : Int) : 0 ≤ cv .u8 x ∧ cv .u8 x < 256 := by
 unfold cv
 simp [IntKind.wrap, IntKind.signed, IntKind.bits]
 omega
theorem tbs_at (a : NI) : ∀ n, ∀ i, i < n → tbs a n i = tb a i
 | 0, i, h => absurd h (by omega)
 | n + 1, i, h => by
  unfold tbs upd
  by_cases e : i = n
  ·rw [if_pos e, e]
  ·rw [if_neg e, tbs_at a n i (by omega)]
theorem tbs_map (a : NI) : (List.range 16).map (tbs a 16) = (List.range 16).map (tb a) := List.map_congr_left fun i hi => tbs_at a 16 i (List.mem_range.1 hi)
theorem tb_nn (a : NI) : ∀ y ∈ (List.range 16).map (tb a), 0 ≤ y ∧ y < 256 := fun y hy => by
 obtain ⟨i, _, rfl⟩ := List.mem_map.1 hy
 exact cv8_nn _
def txS (a : NI) : ByteArray := bs ((List.range 16).map (tb (s5 a)))
theorem c_text (x : NI) (w : World) (hL : Laid w)  : Cs 139 #[.agg (av 5 (w64 x))] w (.string (txS x)) := by
 go_enter Tryz.func139, Tryz.ntmps139
 have M := Mem.start hL
 refine sR ?_
 refine pN M 1 (.cells (av 5 (w64 x)) 192) fun g1 u1 M => ?_
 refine rV 1 <| nT <| sR ?_
 refine pA M 8 0 5 (w64 x) ?_
 refine ZC M 9 (fun w M => c_settled x w M.laid) fun u2 M => ?_
 refine rV 3 ?_
 refine ZG M 0 5 (w64 (s5 x)) fun u3 M => ?_
 refine nT <| sR ?_
 refine pN M 3 (.cells (av 6 (w64 (fun _ => 0))) 227) fun g2 u4 M => ?_
 refine nT <| wp_seq ?_
 refine rg_tail M 2 (by kernel_rfl) (by kernel_rfl) ?_
 simp only [List.take_succ_cons, List.take_zero]
 refine kR 2 ?_
 refine kl_nil fun u5 M => ?_
 refine pl_copyB M (want_no rfl) (some 14) rfl 119 119 3 33 Tryz.underlying119 inz33 1 g2 6 227 (w64 (fun _ => 0)) rfl 0 g1 5 192 (w64 (s5 x)) rfl 0 6 6 0 5 5 5 rfl (by decide) (by decide) (fun _ _ => rfl) (w64 (p6 (s5 x))) (fun j _ => p6_fn (s5 x) j) (fun _ => by kernel_rfl) fun u6 M => ?_
 refine nT <| sR ?_
 refine pN M 4 (.cells (av 16 (w8 (fun _ => 0))) 228) fun g3 u7 M => ?_
 refine nT <| wp_seq <| sq ?_
 refine wp_block ?_
 refine au_loop (fun j a w' => ∃ v1 : NV, a = (fm ([.agg (av 5 (w64 x)), .pointer (some ⟨g1, 0, none⟩), .string ⟨#[]⟩, .pointer (some ⟨g2, 0, none⟩), .pointer (some ⟨g3, 0, none⟩)] ++ vr v1 5 10 ++ [.int .i64 (j : Int)] ++ vr v1 16 24)) ∧ Mem ⟨w, []⟩ [⟨g1, .cells (av 5 (w64 (s5 x))) 192⟩, ⟨g2, .cells (av 6 (w64 (p6 (s5 x)))) 227⟩, ⟨g3, .cells (av 16 (w8 (tbs (s5 x) j))) 228⟩] w') 16 (exS M) ?_ ?_
 ·intro j a u0 hj hI
  obtain ⟨v1, rfl, M⟩ := hI
  refine sR ?_
  refine ZT 16 ((j : Int) < 16) ?_
  refine nT <| wp_seq <| cT <| wp_skip <| au_then ?_
  refine wp_seq ?_
  refine wp_block ?_
  refine sq <| sR <| rV 1 ?_
  refine ZI 19 (8 * (j : Int)) ((8 * j : Nat) : Int) ?_
  refine ZQ 20 .i64 (IntKind.wrap .i64 (((8 * j : Nat) : Int).tdiv 26)) (quo26 (8 * j) (by omega)) ?_
  refine rV 1 <| nT ?_
  refine rg_tail M 16 (by kernel_rfl) (by kernel_rfl) ?_
  simp only [List.take_succ_cons, List.take_zero]
  refine kR 2 ?_
  refine eX 23 .i64 g2 ((8 * j / 26 : Nat)) 6 ?_
  refine eE M 24 1 ((8 * j / 26 : Nat)) ?_
  refine kR 1 ?_
  refine eI 26 (((8 * j / 26 : Nat) : Int) + 1) ((8 * j / 26 + 1 : Nat) : Int) ?_
  refine eX 27 .i64 g2 ((8 * j / 26 + 1 : Nat)) 6 ?_
  refine eE M 28 1 ((8 * j / 26 + 1 : Nat)) ?_
  refine kR 3 ?_
  refine eI 32 (8 * (j : Int)) ((8 * j : Nat) : Int) ?_
  refine eQ 33 .i64 (Int.tmod ((8 * j : Nat) : Int) 26) (rem26 (8 * j)) ?_
  refine kH 34 (.int .u64 (sr (uo (p6 (s5 x) (8 * j / 26)) (sl (p6 (s5 x) (8 * j / 26 + 1)) 26)) (8 * j % 26))) (run_shrU 33 3 _ _ rfl _ .i64 (8 * j % 26) (by kernel_rfl) (by kernel_rfl) (by omega)) ?_
  refine kR 1 ?_
  refine eX 36 .i64 g3 (j) 16 ?_
  refine kl_nil fun u8 M => ?_
  refine ZP8 M 2 j (cv .u8 (sr (uo (p6 (s5 x) (8 * j / 26)) (sl (p6 (s5 x) (8 * j / 26 + 1)) 26)) (8 * j % 26))) fun u9 M => ?_
  refine pl_nil ?_
  refine au_block ?_
  refine au_then ?_
  refine rg_lit ?_
  refine ZI 37 ((j : Int) + 1) ((j + 1 : Nat) : Int) ?_
  refine rV 1 <| nT ?_
  exact exS M
 ·intro a u0 hI
  obtain ⟨v1, rfl, M⟩ := hI
  refine sR ?_
  refine ZF 16 (16 < 16) ?_
  refine nT <| wp_seq <| cF ?_
  refine wp_exit ?_
  refine au_then_exit ?_
  refine au_then_exit ?_
  refine au_block_exit ?_
  refine au_then <| sR <| rV 1 ?_
  refine pl_back M (want_no rfl) (some 39) rfl _ rfl 2 g3 16 16 (by kernel_rfl) _ rfl ((List.range 16).map (tbs (s5 x) 16)) 16 (sb_av 16 _ _) (by simp) (by rw [tbs_map]; exact tb_nn _) ?_
  rw [tbs_map]
  refine rV 1 <| nT <| wp_ret ?_
  exact b1 M
open Go.RowKit
def tr (P a b : NI) (i : Nat) : Nat → (Nat → Int)
 | 0 => P
 | j + 1 => upd (tr P a b i j) (i + j) (ua (tr P a b i j (i + j)) (um (a i) (b j)))
def tp (n : Nat) (a b : NI) : Nat → (Nat → Int)
 | 0 => fun _ => 0
 | i + 1 => tr (tp n a b i) a b i n
def tlo (P : NI) : Nat → (Nat → Int)
 | 0 => P
 | j + 1 => upd (tlo P j) j (ua (tlo P j j) (um (P (5 + j)) 5))
def tmF (a b : NI) : Nat → Int := crF (tlo (tp 5 a b 5) 4)
theorem cp_fn (a : NI) (j : Nat) (hj : j < 5) : (if 0 ≤ j ∧ j < 0 + 5 then w64 a (0 + (j - 0)) else w64 (fun _ => 0) j) = w64 a j := by
 rw [if_pos (by omega), Nat.sub_zero, Nat.zero_add]
theorem c_times (x y : NI) (w : World) (hL : Laid w)  : Cs 137 #[.agg (av 5 (w64 x)), .agg (av 5 (w64 y))] w (.agg (av 5 (w64 (tmF x y)))) := by
 go_enter Tryz.func137, Tryz.ntmps137
 have M := Mem.start hL
 refine sR ?_
 refine pN M 2 (.cells (av 5 (w64 x)) 192) fun g1 u1 M => ?_
 refine pN M 3 (.cells (av 5 (w64 y)) 192) fun g2 u2 M => ?_
 refine pN M 4 (.cells (av 5 (w64 (fun _ => 0))) 192) fun g3 u3 M => ?_
 refine nT <| sR ?_
 refine pN M 5 (.cells (av 9 (w64 (fun _ => 0))) 224) fun g4 u4 M => ?_
 refine nT <| wp_seq <| sR ?_
 refine pA M 13 0 5 (w64 x) ?_
 refine rV 1 <| nT ?_
 refine wp_block ?_
 refine au_loop (fun i a w' => ∃ v1 : NV, a = (fm ([.agg (av 5 (w64 x)), .agg (av 5 (w64 y)), .pointer (some ⟨g1, 0, none⟩), .pointer (some ⟨g2, 0, none⟩), .pointer (some ⟨g3, 0, none⟩), .pointer (some ⟨g4, 0, none⟩)] ++ vr v1 6 7 ++ [.agg (av 5 (w64 x)), .int .i64 (i : Int)] ++ vr v1 15 40)) ∧ Mem ⟨w, []⟩ [⟨g1, .cells (av 5 (w64 x)) 192⟩, ⟨g2, .cells (av 5 (w64 y)) 192⟩, ⟨g3, .cells (av 5 (w64 (fun _ => 0))) 192⟩, ⟨g4, .cells (av 9 (w64 (tp 5 x y i))) 224⟩] w') 5 (exS M) ?_ ?_
 ·intro i a u0 hi hI
  obtain ⟨v1, rfl, M⟩ := hI
  refine sR ?_
  refine ZT 15 ((i : Int) < 5) ?_
  refine nT <| wp_seq <| cT <| wp_skip <| au_then ?_
  refine wp_seq ?_
  refine wp_block ?_
  refine sR <| rV 1 ?_
  refine pH 17 (.int .u64 (x (i))) (run_ixA 192 5 33 Tryz.underlying192 inz33 (fun _ => by kernel_rfl) _ _ rfl (w64 x) (by kernel_rfl) .i64 (i) (by kernel_rfl) (by omega) rfl) ?_
  refine rV 2 <| nT <| sR ?_
  refine pA M 18 1 5 (w64 y) ?_
  refine rV 1 <| nT ?_
  refine wp_block ?_
  refine au_loop (fun j a w' => ∃ v2 : NV, a = (fm ([.agg (av 5 (w64 x)), .agg (av 5 (w64 y)), .pointer (some ⟨g1, 0, none⟩), .pointer (some ⟨g2, 0, none⟩), .pointer (some ⟨g3, 0, none⟩), .pointer (some ⟨g4, 0, none⟩), .int .i64 (i : Int), .int .u64 (x (i))] ++ vr v2 8 5 ++ [.agg (av 5 (w64 x)), .int .i64 (i : Int)] ++ vr v2 15 3 ++ [.agg (av 5 (w64 y)), .int .i64 (j : Int)] ++ vr v2 20 35)) ∧ Mem ⟨w, []⟩ [⟨g1, .cells (av 5 (w64 x)) 192⟩, ⟨g2, .cells (av 5 (w64 y)) 192⟩, ⟨g3, .cells (av 5 (w64 (fun _ => 0))) 192⟩, ⟨g4, .cells (av 9 (w64 (tr (tp 5 x y i) x y i j))) 224⟩] w') 5 (exS M) ?_ ?_
  ·intro j a u0 hj hI
   obtain ⟨v2, rfl, M⟩ := hI
   refine sR ?_
   refine ZT 20 ((j : Int) < 5) ?_
   refine nT <| wp_seq <| cT <| wp_skip <| au_then ?_
   refine wp_seq ?_
   refine wp_block ?_
   refine sR <| rV 1 ?_
   refine pH 22 (.int .u64 (y (j))) (run_ixA 192 5 33 Tryz.underlying192 inz33 (fun _ => by kernel_rfl) _ _ rfl (w64 y) (by kernel_rfl) .i64 (j) (by kernel_rfl) (by omega) rfl) ?_
   refine rV 2 <| nT ?_
   refine rg_lit ?_
   refine rV 2 ?_
   refine ZI 25 ((i : Int) + (j : Int)) ((i + j : Nat) : Int) ?_
   refine ZX 26 .i64 g4 ((i + j : Nat)) 9 ?_
   refine ZE M 27 3 ((i + j : Nat)) ?_
   refine rV 4 ?_
   refine ZX 32 .i64 g4 ((i + j : Nat)) 9 ?_
   refine ZP64 M 3 ((i + j : Nat)) (ua ((tr (tp 5 x y i) x y i j) ((i + j : Nat))) (um (x (i)) (y (j)))) fun u5 M => ?_
   refine pl_nil ?_
   refine au_block ?_
   refine au_then ?_
   refine rg_lit ?_
   refine ZI 33 ((j : Int) + 1) ((j + 1 : Nat) : Int) ?_
   refine rV 1 <| nT ?_
   exact exS M
  ·intro a u0 hI
   obtain ⟨v2, rfl, M⟩ := hI
   refine sR ?_
   refine ZF 20 (5 < 5) ?_
   refine nT <| wp_seq <| cF ?_
   refine wp_exit ?_
   refine au_then_exit ?_
   refine au_then_exit ?_
   refine au_block_exit ?_
   refine au_block ?_
   refine au_then ?_
   refine rg_lit ?_
   refine ZI 34 ((i : Int) + 1) ((i + 1 : Nat) : Int) ?_
   refine rV 1 <| nT ?_
   exact exS M
 ·intro a u0 hI
  obtain ⟨v1, rfl, M⟩ := hI
  refine sR ?_
  refine ZF 15 (5 < 5) ?_
  refine nT <| wp_seq <| cF ?_
  refine wp_exit ?_
  refine au_then_exit ?_
  refine au_then_exit ?_
  refine au_block_exit ?_
  refine au_then <| sR ?_
  refine pN M 10 (.cells (av 5 (w64 (fun _ => 0))) 192) fun g5 u6 M => ?_
  refine nT <| wp_seq ?_
  refine rg_tail M 2 (by kernel_rfl) (by kernel_rfl) ?_
  simp only [List.take_succ_cons, List.take_zero]
  refine kR 2 ?_
  refine kl_nil fun u7 M => ?_
  refine pl_copyB M (want_no rfl) (some 37) rfl 119 119 3 33 Tryz.underlying119 inz33 4 g5 5 192 (w64 (fun _ => 0)) rfl 3 g4 9 224 (w64 (tp 5 x y 5)) rfl 0 5 5 0 5 9 5 rfl (by decide) (by decide) (fun _ _ => rfl) (w64 (tp 5 x y 5)) (fun j hj => cp_fn (tp 5 x y 5) j hj) (fun _ => by kernel_rfl) fun u8 M => ?_
  refine nT <| wp_seq <| sq ?_
  refine wp_block ?_
  refine au_loop (fun j a w' => ∃ v3 : NV, a = (fm ([.agg (av 5 (w64 x)), .agg (av 5 (w64 y)), .pointer (some ⟨g1, 0, none⟩), .pointer (some ⟨g2, 0, none⟩), .pointer (some ⟨g3, 0, none⟩), .pointer (some ⟨g4, 0, none⟩)] ++ vr v3 6 4 ++ [.pointer (some ⟨g5, 0, none⟩)] ++ vr v3 11 2 ++ [.agg (av 5 (w64 x)), .int .i64 (5 : Int)] ++ vr v3 15 23 ++ [.slice (some ⟨g4, 5, none⟩) 4 4, .int .i64 4, .int .i64 (j : Int)] ++ vr v3 41 14)) ∧ Mem ⟨w, []⟩ [⟨g1, .cells (av 5 (w64 x)) 192⟩, ⟨g2, .cells (av 5 (w64 y)) 192⟩, ⟨g3, .cells (av 5 (w64 (fun _ => 0))) 192⟩, ⟨g4, .cells (av 9 (w64 (tp 5 x y 5))) 224⟩, ⟨g5, .cells (av 5 (w64 (tlo (tp 5 x y 5) j))) 192⟩] w') 4 (exS M) ?_ ?_
  ·intro j a u0 hj hI
   obtain ⟨v3, rfl, M⟩ := hI
   refine sR ?_
   refine ZT 41 ((j : Int) < 4) ?_
   refine nT <| wp_seq <| cT <| wp_skip <| au_then ?_
   refine wp_seq ?_
   refine wp_block ?_
   refine sR <| rV 1 ?_
   refine pH 43 (.pointer (some ⟨g4, (5 + j), none⟩)) (run_ixL 119 33 Tryz.underlying119 inz33 _ _ rfl g4 5 4 4 (by kernel_rfl) .i64 j (by kernel_rfl) hj) ?_
   refine ZE M 44 3 (5 + j) ?_
   refine rV 2 <| nT ?_
   refine rg_lit ?_
   refine rV 1 ?_
   refine ZX 46 .i64 g5 (j) 5 ?_
   refine ZE M 47 4 j ?_
   refine rV 3 ?_
   refine ZX 51 .i64 g5 (j) 5 ?_
   refine ZP64 M 4 j (ua ((tlo (tp 5 x y 5) j) j) (um ((tp 5 x y 5) (5 + j)) 5)) fun u9 M => ?_
   refine pl_nil ?_
   refine au_block ?_
   refine au_then ?_
   refine rg_lit ?_
   refine ZI 52 ((j : Int) + 1) ((j + 1 : Nat) : Int) ?_
   refine rV 1 <| nT ?_
   exact exS M
  ·intro a u0 hI
   obtain ⟨v3, rfl, M⟩ := hI
   refine sR ?_
   refine ZF 41 (4 < 4) ?_
   refine nT <| wp_seq <| cF ?_
   refine wp_exit ?_
   refine au_then_exit ?_
   refine au_then_exit ?_
   refine au_block_exit ?_
   refine au_then <| sR ?_
   refine pA M 53 4 5 (w64 (tlo (tp 5 x y 5) 4)) ?_
   refine ZC M 54 (fun w M => c_carried (tlo (tp 5 x y 5) 4) w M.laid) fun u10 M => ?_
   refine ZG M 2 5 (w64 (crF (tlo (tp 5 x y 5) 4))) fun u11 M => ?_
   refine nT <| wp_ret ?_
   exact bc Tryz.results137 M 2 5 (w64 (crF (tlo (tp 5 x y 5) 4))) ⟨rfl, below_grown M.old⟩
open Go.RowKit
def FW (ro : Option Nat) : Fence := { Fence.wide with round := ro }
theorem fw_calls {ro : Option Nat} {n : Nat} {P : Program} {f : FuncId} {args : Array Value} {w : World} {R : Ending → World → Prop} (h : Calls P f args w R) : CallsIn (FW ro) n P f args w R := (callsIn_wide (n := n)).2 h
theorem fw_rows {ro : Option Nat} {n : Nat} {P : Program} {row : String} {args : Array Value} {w : World} {R : Value → World → Prop} (h : Rows P row args w R) : RowsIn (FW ro) n P row args w R :=
 fun c cs _ => let ⟨v, w', r, s⟩ := h c cs; ⟨v, w', r, stepsIn_wide.2 s⟩
section
variable {P : Program} {ops : Array Oper} {rest : List Oper} {o : Oper} {a : Act} {w : World} {Q : Exit → Act → World → Prop} {K : Act → World → Prop} {n : Nat} {ro : Option Nat}
theorem op_in (hd : ∀ c, o.op ≠ .defer c) (h : o.wp P a w K Q) : o.wpIn (FW ro) n P a w K Q := by
 refine ⟨fun _ _ => trivial, ?_⟩
 rw [Oper.semAt_eq _ _ _ hd]
 unfold Oper.wp at h
 generalize (execOp a.eval o).run P w = r at h
 cases r with
 | ok x w' =>
  cases x <;> simp only [Oper.upon] at h <;> simp only [Oper.uponIn]
  all_goals first
   | exact h
   | exact h.elim
   | exact ⟨fun e => by simp [FW, Fence.wide] at e, fw_calls h⟩
   | exact ⟨fun e => by simp [FW, Fence.wide] at e, fw_rows h⟩
 | halt x w' => cases x <;> simp only [Oper.upon] at h <;> simp only [Oper.uponIn] <;> exact h
def ndB (o : Oper) : Bool := match o.op with
 | .defer _ => false
 | _ => true
theorem nd_of (h : ndB o = true) : ∀ c, o.op ≠ .defer c := fun c e => by simp [ndB, e] at h
theorem list_in : ∀ (l : List Oper) (a : Act) (w : World), l.all ndB = true → (∀ a w, ¬ Q .outgrown a w) → wpList P ops Q l a w → wpListIn (FW ro) n P ops Q l a w
 | [], _, _, _, _, h => h
 | o :: l, a, w, hd, hQ, h => by
  simp only [List.all_cons, Bool.and_eq_true] at hd
  unfold wpList at h
  unfold wpListIn
  split
  ·rename_i hw
   rw [if_pos hw] at h
   rcases h with h | ⟨_, a', w', h⟩
   ·exact Oper.wpIn_mono (fun a w h => list_in l a w hd.2 hQ h) (op_in (nd_of hd.1) h)
   ·exact absurd h (hQ a' w')
  ·rename_i hw
   rw [if_neg hw] at h
   exact ⟨fun _ _ => trivial, list_in l _ _ hd.2 hQ h⟩
theorem list_in_then : ∀ (l : List Oper) (a : Act) (w : World), l.all ndB = true → (∀ a w, ¬ Q .outgrown a w) → wpList P ops (Exit.then (wpListIn (FW ro) n P ops Q rest) Q) l a w → wpListIn (FW ro) n P ops Q (l ++ rest) a w
 | [], _, _, _, _, h => h
 | o :: l, a, w, hd, hQ, h => by
  simp only [List.all_cons, Bool.and_eq_true] at hd
  unfold wpList at h
  rw [List.cons_append]
  unfold wpListIn
  split
  ·rename_i hw
   rw [if_pos hw] at h
   rcases h with h | ⟨_, a', w', h⟩
   ·exact Oper.wpIn_mono (fun a w h => list_in_then l a w hd.2 hQ h) (op_in (nd_of hd.1) (wp_unthen h))
   ·exact absurd h (hQ a' w')
  ·rename_i hw
   rw [if_neg hw] at h
   exact ⟨fun _ _ => trivial, list_in_then l _ _ hd.2 hQ h⟩
theorem any_in (hd : ∀ (i : Nat) (o : Oper), ops[i]? = some o → ndB o = true) (hQ : ∀ a w, ¬ Q .outgrown a w) {md : Region.Mode} : ∀ (fuel : Nat) (listed : Array Bool) (a : Act) (w : World), wpAny P md ops Q fuel listed a w → wpAnyIn (FW ro) n P md ops Q fuel listed a w
 | 0, _, _, _, h => h
 | fuel + 1, listed, a, w, h => ⟨h.1, fun i hi => by
  have h1 := h.2 i hi
  unfold wpOp at h1
  unfold wpOpIn
  cases ho : ops[i]? with
  | none =>
   simp only [ho] at h1 ⊢
   exact any_in hd hQ fuel _ _ _ h1
  | some o =>
   simp only [ho] at h1 ⊢
   split
   ·rename_i hw
    rw [if_pos hw] at h1
    rcases h1 with h1 | ⟨_, a', w', h1⟩
    ·exact Oper.wpIn_mono (fun a w h => any_in hd hQ fuel _ a w h) (op_in (nd_of (hd i o ho)) h1)
    ·exact absurd h1 (hQ a' w')
   ·rename_i hw
    rw [if_neg hw] at h1
    exact ⟨fun _ _ => trivial, any_in hd hQ fuel _ _ _ h1⟩⟩
theorem rr_lit {id : Nat} {l : List Oper} (hd : l.all ndB = true) (hQ : ∀ a w, ¬ Q .outgrown a w) (h : PL P l.toArray Q l a w) : (Code.region id l.toArray false).wpIn (FW ro) n P Q a w := wpIn_region_lit (list_in l a w hd hQ h.out)
theorem rr_held {c : Ctx} {L : List Blk} {id : Nat} {l : List Oper} (hd : l.all ndB = true) (hO : ∀ a w, ¬ Q .outgrown a w) (M : Mem c L w) (Ls : List Blk) (m : Nat) (hn : l.length = m + 1) (hm : P.follows .mixedOrders = true) (hB : (Region.sinkB .any l.toArray m && Region.chainB .any l.toArray m && Region.noSelect l.toArray) = true) (hQ : ∀ c a d v w, Q (.panic c) (Act.put a d v) w → Q (.panic c) a w)
  (h : ∀ w', Mem c L w' → HL P l.toArray Q (Mem c Ls) m (m + 1) (Array.replicate (m + 1) false) a w') : (Code.region id l.toArray true).wpIn (FW ro) n P Q a w := by
 simp only [Bool.and_eq_true] at hB
 have hsz : l.toArray.size = m + 1 := by simpa using hn
 have inv : HeadInv .any l.toArray m (Array.replicate (m + 1) false) :=
  ⟨by simpa using hn.symm, fun j oj _ hl => (by rw [getD_replicate_false] at hl; cases hl), fun t _ ht => getD_in (by simp; omega) (getD_replicate_false _ _)⟩
 have h2 := (h w.drew M.drew).out hQ ⟨hB.1.1, hB.1.2, by omega, hB.2⟩ inv
 refine wpIn_region_any hm (any_in (fun i o ho => ?_) hO _ _ _ _ (wpAny_of_L (S := Mem c Ls) (n := m) _ _ _ _ ?_))
 ·have h3 : l[i]? = some o := by simpa using ho
  exact List.all_eq_true.1 hd o (List.mem_of_getElem? h3)
 ·rw [hsz]
  exact h2
def rdPost (lp : Nat) (d : Option Tmp) (a : Act) (K : Act → World → Prop) : Exit → Act → World → Prop
 | .normal, _, u => ∃ r, u.heap[lp]? = some (.loop r) ∧ K (a.put d (.bool true)) (u.putObj lp (.loop { r with state := .ready, pending := none }))
 | _, _, _ => False
theorem pl_yield (lp : Nat) (r : Loop) (args : Array Value) (hl : w.heap[lp]? = some (.loop r)) (hs : args.size = r.params.size) (hst : r.state = .ready) (hd : ndB o = true) (hrun : ∀ w, (execOp a.eval o).run P w = (Instr.yield lp args).run P w) (hw : Region.wanted o (yielded ops a.tmps) = true)
  (h : r.assign.wpIn (FW (some lp)) 0 P (Exit.then (fun a1 w1 => w1.heap[lp]? = some (.loop r) ∧ r.body.wpIn (FW (some lp)) 0 P (rdPost lp o.dst a (wpListIn (FW none) 0 P ops Q rest)) a1 (w1.putObj lp (.loop { r with state := .busy }))) (fun _ _ _ => False)) { tmps := (r.params.zip args).foldl (fun t (p, v) => t.setIfInBounds p v) r.tmps, defers := [] } w) :
  wpListIn (FW none) 0 P ops Q (o :: rest) a w := by
 unfold wpListIn
 rw [if_pos hw]
 refine ⟨fun _ _ => trivial, ?_⟩
 rw [Oper.semAt_eq _ _ _ (nd_of hd), hrun, run_yield hl hs, Oper.uponIn_round]
 refine ⟨fun e => by simp [FW, Fence.wide] at e, ?_⟩
 refine roundIn_of_wpIn (F := FW none) trivial ?_
 refine wpIn_mono h ?_
 rintro e a1 w1 hq
 cases e with
 | normal =>
  obtain ⟨h1, h2⟩ := hq
  refine ⟨_, run_beginRound h1 hst, ?_⟩
  refine wpIn_mono h2 ?_
  rintro e a2 w2 hq
  cases e with
  | normal =>
   obtain ⟨r2, h3, h4⟩ := hq
   exact ⟨_, _, run_endRound none h3, h4⟩
  | ret => exact hq.elim
  | exit i => exact hq.elim
  | goto i => exact hq.elim
  | panic c => exact hq.elim
  | outgrown => exact hq.elim
 | ret => exact hq.elim
 | exit i => exact hq.elim
 | goto i => exact hq.elim
 | panic c => exact hq.elim
 | outgrown => exact hq.elim
theorem in_list {l : List Oper} (hd : l.all ndB = true) (hQ : ∀ a w, ¬ Q .outgrown a w) (h : PL P ops Q l a w) : wpListIn (FW none) 0 P ops Q l a w := list_in l a w hd hQ h.out
theorem wp_range {g : Operand} {ps : Array Tmp} {assign body : Code} {gf : FuncId} {lb : Array Value} (hg : a.eval g = .func (.func gf) #[] lb) (eg : ∀ args w, (callFunc gf args).run P w = .ok (.enter gf args) w)
  (h : ∀ fn, Calls P gf (#[.func (.yield (w.heap.size + 1)) #[] #[]] ++ lb) ((w.alloc (.deferred (some []))).alloc (.loop { state := .ready, pending := none, fn, tmps := a.tmps, params := ps, assign, body, defers := w.heap.size }))
   fun e w3 => (∃ v, e = .returned v) ∧ ∃ r, w3.heap[w.heap.size + 1]? = some (.loop r) ∧ r.state ≠ .busy ∧
    (match r.pending with
     | none => Q .normal { a with defers := { target := .collected w.heap.size, args := #[] } :: a.defers } (w3.putObj (w.heap.size + 1) (.loop { r with state := .exhausted }))
     | some c => c.wp P Q { a with defers := { target := .collected w.heap.size, args := #[] } :: a.defers } (w3.putObj (w.heap.size + 1) (.loop { r with state := .exhausted })))) :
  (Code.rangeFunc g ps assign body).wp P Q a w := by
 refine (wpIn_wide (n := 0)).1 ?_
 refine wpIn_rangeFunc ?_
 intro fn _
 refine ⟨w.heap.size + 1, [{ target := .collected w.heap.size, args := #[] }], ((w.alloc (.deferred (some []))).alloc (.loop { state := .ready, pending := none, fn, tmps := a.tmps, params := ps, assign, body, defers := w.heap.size })), { target := .fn (.func gf) lb, args := #[.func (.yield (w.heap.size + 1)) #[] #[]] }, ((w.alloc (.deferred (some []))).alloc (.loop { state := .ready, pending := none, fn, tmps := a.tmps, params := ps, assign, body, defers := w.heap.size })), gf, #[.func (.yield (w.heap.size + 1)) #[] #[]] ++ lb, ((w.alloc (.deferred (some []))).alloc (.loop { state := .ready, pending := none, fn, tmps := a.tmps, params := ps, assign, body, defers := w.heap.size })), run_enterLoop_outer _ _ _ _ _, ?_, fun _ _ => trivial, ?_, fun e => by simp [Fence.wide] at e, ?_⟩
 ·simp only [resolve, hg]
  simp [go_sem]
 ·simp [invoke, go_sem, eg]
 ·refine (callsIn_wide (n := 0 - 1)).2 ((h fn).mono ?_)
  rintro e w3 ⟨⟨v, rfl⟩, r, h1, h2, h3⟩
  refine ⟨r.pending, _, run_endLoop h1 h2, ?_⟩
  cases hp : r.pending with
  | none =>
   rw [hp] at h3
   exact h3
  | some c =>
   rw [hp] at h3
   exact wpIn_wide.2 h3
theorem marks_ret {fn : Func} {R : Ending → World → Prop} {D : Nat} {v : Value} (hdf : a.defers = [{ target := .collected D, args := #[] }]) (hD : w.heap[D]? = some (.deferred (some []))) (hr : ∀ w, (results fn a.tmps).run P w = .ok v w) (h : R (.returned v) (w.putObj D (.deferred none))) : bodyPostM Fence.wide 0 P fn R .ret a w := by
 show LeavesInM Fence.wide 0 P fn a.tmps R a.defers .returning w
 rw [hdf]
 refine ⟨by simp, .inl ⟨D, _, rfl, run_takeDeferred hD, ?_⟩⟩
 exact ⟨v, hr _, h⟩
end
def findRange : Code → Option (Code × Code)
 | .seq a b => (findRange a).orElse fun _ => findRange b
 | .block _ c => findRange c
 | .rangeFunc _ _ s b => some (s, b)
 | _ => none
theorem code_is {O : Option (Code × Code)} {c0 d0 sg bd : Code} (hO : O = some (c0, d0)) (hc : O = some (sg, bd)) {F : Fence} {n : Nat} {P : Program} {Q : Exit → Act → World → Prop} {a : Act} {w : World} (h : d0.wpIn F n P Q a w) : bd.wpIn F n P Q a w := by
 rw [hO] at hc
 cases hc
 exact h
theorem code_is1 {O : Option (Code × Code)} {c0 d0 sg bd : Code} (hO : O = some (c0, d0)) (hc : O = some (sg, bd)) {F : Fence} {n : Nat} {P : Program} {Q : Exit → Act → World → Prop} {a : Act} {w : World} (h : c0.wpIn F n P Q a w) : sg.wpIn F n P Q a w := by
 rw [hO] at hc
 cases hc
 exact h
theorem fr_is {a b : Act} (h : a = b) {c : Code} {F : Fence} {n : Nat} {P : Program} {Q : Exit → Act → World → Prop} {w : World} (k : c.wpIn F n P Q b w) : c.wpIn F n P Q a w := by
 rw [h]
 exact k
theorem rg_yieldN {P : Program} {a : Act} {w : World} {Q : Exit → Act → World → Prop} {id : Nat} {l : List Oper} (m : Nat) (hd : (l.take m).all ndB = true) (hQ : ∀ a w, ¬ Q .outgrown a w) (h : PL P l.toArray (Exit.then (wpListIn (FW none) 0 P l.toArray Q (l.drop m)) Q) (l.take m) a w) : (Code.region id l.toArray false).wp P Q a w := by
 refine (wpIn_wide (n := 0)).1 ?_
 refine wpIn_region_lit (F := FW none) ?_
 have h2 := list_in_then (ro := none) (n := 0) (l.take m) a w hd hQ h.out
 rw [List.take_append_drop] at h2
 exact h2
theorem fr_w {a b : Act} (h : a = b) {c : Code} {P : Program} {Q : Exit → Act → World → Prop} {w : World} (k : c.wp P Q b w) : c.wp P Q a w := by
 rw [h]
 exact k
section
variable {P : Program} {ops : Array Oper} {rest : List Oper} {o : Oper} {a : Act} {w : World} {c : Ctx} {L : List Blk} {Q : Exit → Act → World → Prop}
theorem pl_calltwo (M : Mem c L w) (hw : Region.wanted o (yielded ops a.tmps) = true) (d : Option Tmp) (hd : o.dst = d) (f : FuncId) (args : Array Value) (v : Nat → Nat → Value) (Z Y : Obj) (hrun : ∀ w, (execOp a.eval o).run P w = .ok (.enter f args) w)
  (hc : ∀ w, Mem c L w → Calls P f args w fun e w' => ∃ g k, e = .returned (v g k) ∧ Mem ⟨w, []⟩ [⟨g, Z⟩, ⟨k, Y⟩] w') (h : ∀ g k w', Mem c (L ++ [⟨g, Z⟩, ⟨k, Y⟩]) w' → PL P ops Q rest (a.put d (v g k)) w') : PL P ops Q (o :: rest) a w :=
 pl_callq hw d hd f args hrun ((hc w M).mono fun _ w' ⟨g, k, he, M'⟩ => ⟨v g k, he, h g k w' (M.news (below_grown M'.old) M'.at_ (fun b hb => (M'.ge b hb).elim id fun h => by cases h) M'.nodup)⟩)
theorem _root_.Go.Proofs.YtiahdbibeleakaaGreatDoor.Mem.putO (M : Mem c L w) (i g : Nat) (Z Z' : Obj) (hi : L[i]? = some ⟨g, Z⟩) : Mem c (L.set i ⟨g, Z'⟩) (w.putObj g Z') :=
 M.put i ⟨g, Z⟩ hi Z' ⟨rfl, rfl, rfl, by simp, fun j _ hj => World.putObj_heap_other (by simpa using hj)⟩ (World.putObj_heap_same (Array.getElem?_eq_some_iff.1 (M.get i hi)).1)
theorem _root_.Go.Proofs.YtiahdbibeleakaaGreatDoor.Mem.alloc2 (M : Mem c L w) (Z1 Z2 : Obj) : Mem c (L ++ [⟨w.heap.size, Z1⟩, ⟨w.heap.size + 1, Z2⟩]) ((w.alloc Z1).alloc Z2) := by
 have M1 := M.new w.heap.size Z1 (new_below w Z1) (heap_alloc_new w Z1) (Nat.le_refl _)
 have e : (w.alloc Z1).heap.size = w.heap.size + 1 := World.size_alloc _ _
 have M2 := M1.new (w.heap.size + 1) Z2 (new_below (w.alloc Z1) Z2) (by rw [← e]; exact heap_alloc_new (w.alloc Z1) Z2) (by rw [e]; exact Nat.le_refl _)
 rw [List.append_assoc] at M2
 exact M2
end
def pc (s : Yb) (off n : Nat) : Nat → Int := noF (mk (fun i => bt s (off + i)) n)
def nx (s : Yb) (r h : NI) (j : Nat) : Nat → Int := tmF (plF h (pc s (16 * j) (min 16 (s.size - 16 * j)))) r
def sm (s : Yb) (r : NI) : Nat → (Nat → Int)
 | 0 => fun _ => 0
 | j + 1 => nx s r (sm s r j) j
theorem piece_at (s : Yb) (off i : Nat) (h : off + i < s.size) : (vs8 (sb s))[off + i]? = some (w8 (fun i => bt s (off + i)) i) := by
 unfold vs8
 rw [List.getElem?_map, sb_get s _ h]
 rfl
theorem r_body (sg bd : Code) (hb : Tryz.f104.body.bind findRange = some (sg, bd)) (s : Yb) (r h : NI) (j : Nat) (hj : 16 * j < s.size) (gr gl gh gq cap lp : Nat) (Zl Zq : Obj) (hZ : SB Zq cap (vs8 (sb s))) (L0 : List Blk) (v : NV) (c : Ctx) (u : World) (R : Exit → Act → World → Prop) (hO : ∀ a w, ¬ R .outgrown a w) (hP : ∀ c a w, ¬ R (.panic c) a w)
  (M : Mem c (⟨gr, .cells (av 5 (w64 r)) 192⟩ :: ⟨gl, Zl⟩ :: ⟨gh, .cells (av 5 (w64 h)) 192⟩ :: ⟨gq, Zq⟩ :: L0) u)
  (hgo : ∀ a u', Mem c (⟨gr, .cells (av 5 (w64 r)) 192⟩ :: ⟨gl, Zl⟩ :: ⟨gh, .cells (av 5 (w64 (nx s r h j))) 192⟩ :: ⟨gq, Zq⟩ :: L0) u' → R .normal a u') :
  bd.wpIn (FW (some lp)) 0 Tryz.prog R (fm (vr v 0 6 ++ [.pointer (some ⟨gr, 0, none⟩), v 7, .pointer (some ⟨gh, 0, none⟩), .slice (some ⟨gq, (16 * j), none⟩) (min 16 (s.size - 16 * j)) (min 16 (s.size - 16 * j))] ++ vr v 10 24)) u := by
 refine code_is (O := Tryz.f104.body.bind findRange) rfl hb ?_
 refine wpIn_block ?_
 refine rr_held (by kernel_rfl) (fun _ _ h => hO _ _ h) M (⟨gr, .cells (av 5 (w64 r)) 192⟩ :: ⟨gl, Zl⟩ :: ⟨gh, .cells (av 5 (w64 h)) 192⟩ :: ⟨gq, Zq⟩ :: L0) 6 rfl (by kernel_rfl) (by kernel_rfl) (fun _ _ _ _ _ h => (hP _ _ _ h).elim) fun u1 M => ?_
 refine hl_load M 0 rfl (by decide) (by kernel_rfl) (by kernel_rfl) (want_no rfl) (some 23) rfl 192 _ rfl 2 gh 0 (by kernel_rfl) 5 192 (w64 h) rfl 5 (w64 h) (fun j _ => by rw [Nat.zero_add]) (by decide) _ Tryz.underlying192 rfl inz192 ?_
 refine qV M 1 24 (.slice (some ⟨gq, (16 * j), none⟩) (min 16 (s.size - 16 * j)) (min 16 (s.size - 16 * j))) ?_
 refine hl_load M 4 rfl (by decide) (by kernel_rfl) (by kernel_rfl) (want_no rfl) (some 27) rfl 192 _ rfl 0 gr 0 (by kernel_rfl) 5 192 (w64 r) rfl 5 (w64 r) (fun j _ => by rw [Nat.zero_add]) (by decide) _ Tryz.underlying192 rfl inz192 ?_
 refine qO 2 ?_
 refine ZC M 25 (fun w M => c_marked (fun i => bt s (16 * j + i)) (min 16 (s.size - 16 * j)) (by omega) gq (16 * j) (min 16 (s.size - 16 * j)) w M.laid (fun i hi => hZ.cell (M.get 3 rfl) (piece_at s (16 * j) i (by omega)))) fun u2 M => ?_
 refine nT ?_
 refine ⟨M, ?_⟩
 refine qO 3 ?_
 refine pC M 26 135 #[.agg (av 5 (w64 h)), .agg (av 5 (w64 (pc s (16 * j) (min 16 (s.size - 16 * j)))))] (.agg (av 5 (w64 (plF h (pc s (16 * j) (min 16 (s.size - 16 * j))))))) (fun w M => c_plus h _ w M.laid) fun u3 M => ?_
 refine nT ?_
 refine ⟨M, ?_⟩
 refine qO 5 ?_
 refine pC M 28 137 #[.agg (av 5 (w64 (plF h (pc s (16 * j) (min 16 (s.size - 16 * j)))))), .agg (av 5 (w64 r))] (.agg (av 5 (w64 (nx s r h j)))) (fun w M => c_times _ r w M.laid) fun u4 M => ?_
 refine nT ?_
 refine ⟨M, ?_⟩
 refine qZ ?_
 refine ZG M 2 5 (w64 (nx s r h j)) fun u5 M => ?_
 refine nT ?_
 refine au_block ?_
 exact hgo _ _ M
theorem c_chunk (gq n cap : Nat) (w : World) (hL : Laid w) : Calls Tryz.prog 134 #[.slice (some ⟨gq, 0, none⟩) n cap, .int .i64 16] w fun r w' => ∃ g k, r = .returned (.func (.func 162) #[] #[.pointer (some ⟨g, 0, none⟩), .pointer (some ⟨k, 0, none⟩)]) ∧ Mem ⟨w, []⟩ [⟨g, .cells (av 1 (fun _ => .slice (some ⟨gq, 0, none⟩) n cap)) 44⟩, ⟨k, .cells (av 1 (fun _ => .int .i64 16)) 3⟩] w' := by
 go_enter Tryz.func134, Tryz.ntmps134
 have M := Mem.start hL
 refine sR ?_
 refine pN M 2 (.cells (av 1 (fun _ => .slice (some ⟨gq, 0, none⟩) n cap)) 44) fun g1 u1 M => ?_
 refine pN M 3 (.cells (av 1 (fun _ => .int .i64 16)) 3) fun g2 u2 M => ?_
 refine rV 1 <| nT <| wp_seq <| sR <| ZE M 5 1 0 ?_
 refine rV 1 <| nT <| cF <| wp_skip <| au_then ?_
 refine sq <| wp_ret ?_
 exact bX (.func (.func 162) #[] #[.pointer (some ⟨g1, 0, none⟩), .pointer (some ⟨g2, 0, none⟩)]) ⟨g1, g2, rfl, M⟩
def lpr (st : LoopState) (pe : Option Code) (fn : FuncId) (T : Array Value) (sg bd : Code) (D : Nat) : Loop := { state := st, pending := pe, fn := fn, tmps := T, params := #[22], assign := sg, body := bd, defers := D }
def tF (gr gl gh : Nat) (v : NV) : Array Value := #[v 0, v 1, v 2, v 3, v 4, v 5, .pointer (some ⟨gr, 0, none⟩), .pointer (some ⟨gl, 0, none⟩), .pointer (some ⟨gh, 0, none⟩), v 9, v 10, v 11, v 12, v 13, v 14, v 15, v 16, v 17, v 18, v 19, v 20, v 21, v 22, v 23, v 24, v 25, v 26, v 27, v 28, v 29, v 30, v 31, v 32, v 33]
theorem c_iter (sg bd : Code) (hb : Tryz.f104.body.bind findRange = some (sg, bd)) (s : Yb) (r : NI) (hz : s.size ≤ 200000) (gr gl gh gq gs gn lp D cap : Nat) (Zl Zq : Obj) (hZ : SB Zq cap (vs8 (sb s))) (hcap : s.size ≤ cap) (fn : FuncId) (v : NV) (c : Ctx) (u : World)
  (M : Mem c [⟨gr, .cells (av 5 (w64 r)) 192⟩, ⟨gl, Zl⟩, ⟨gh, .cells (av 5 (w64 (sm s r 0))) 192⟩, ⟨gq, Zq⟩, ⟨gs, .cells (av 1 (fun _ => .slice (some ⟨gq, 0, none⟩) s.size cap)) 44⟩, ⟨gn, .cells (av 1 (fun _ => .int .i64 16)) 3⟩, ⟨D, .deferred (some [])⟩, ⟨lp, .loop (lpr .ready none fn (tF gr gl gh v) sg bd D)⟩] u) : Calls Tryz.prog 162 #[.func (.yield lp) #[] #[], .pointer (some ⟨gs, 0, none⟩), .pointer (some ⟨gn, 0, none⟩)] u fun e u' => (∃ v, e = .returned v) ∧ Mem c [⟨gr, .cells (av 5 (w64 r)) 192⟩, ⟨gl, Zl⟩, ⟨gh, .cells (av 5 (w64 (sm s r ((s.size + 15) / 16)))) 192⟩, ⟨gq, Zq⟩, ⟨gs, .cells (av 1 (fun _ => .slice (some ⟨gq, 0, none⟩) s.size cap)) 44⟩, ⟨gn, .cells (av 1 (fun _ => .int .i64 16)) 3⟩, ⟨D, .deferred (some [])⟩, ⟨lp, .loop (lpr .ready none fn (tF gr gl gh v) sg bd D)⟩] u' := by
 go_enter Tryz.func162, Tryz.ntmps162
 refine sq ?_
 refine wp_block ?_
 obtain ⟨N, hN⟩ : ∃ N, N = (s.size + 15) / 16 := ⟨_, rfl⟩
 rw [← hN]
 refine au_loop (fun j a u => ∃ v1 : NV, a = (fm ([.func (.yield lp) #[] #[], .pointer (some ⟨gs, 0, none⟩), .pointer (some ⟨gn, 0, none⟩), undef, .int .i64 ((16 * j : Nat) : Int)] ++ vr v1 5 26)) ∧ Mem c [⟨gr, .cells (av 5 (w64 r)) 192⟩, ⟨gl, Zl⟩, ⟨gh, .cells (av 5 (w64 (sm s r j))) 192⟩, ⟨gq, Zq⟩, ⟨gs, .cells (av 1 (fun _ => .slice (some ⟨gq, 0, none⟩) s.size cap)) 44⟩, ⟨gn, .cells (av 1 (fun _ => .int .i64 16)) 3⟩, ⟨D, .deferred (some [])⟩, ⟨lp, .loop (lpr .ready none fn (tF gr gl gh v) sg bd D)⟩] u) N (exS M) ?_ ?_
 ·intro j a u0 hj hI
  clear M
  obtain ⟨v1, rfl, M⟩ := hI
  refine wp_seq <| sR <| rV 1 <| ZE M 7 4 0 <| rV 1 ?_
  refine ZT 9 (((16 * j : Nat) : Int) < ((s.size : Nat) : Int)) ?_
  refine nT <| cT <| wp_skip <| au_then <| wp_seq ?_
  refine wp_block ?_
  refine wp_seq ?_
  refine rg_tail M 6 (by kernel_rfl) (by kernel_rfl) ?_
  simp only [List.take_succ_cons, List.take_zero]
  refine eE M 13 5 0 <| eE M 14 4 0 <| kR 1 ?_
  refine kH 16 (.slice (some ⟨gq, (0 + 16 * j), none⟩) (s.size - 16 * j) (cap - 16 * j)) (run_slL 44 5 Tryz.underlying44 inz5 _ _ rfl gq 0 s.size cap (by kernel_rfl) .i64 (16 * j) (by kernel_rfl) (by omega) (by omega)) ?_
  refine kR 1 ?_
  refine kH 18 (.int .i64 ((min 16 (s.size - 16 * j) : Nat) : Int)) (fun w => Eq.trans (b := .ok (.value (.int .i64 (if ((s.size - 16 * j : Nat) : Int) < (16 : Int) then ((s.size - 16 * j : Nat) : Int) else (16 : Int)))) w) (by kernel_rfl) (by rw [show (if ((s.size - 16 * j : Nat) : Int) < (16 : Int) then ((s.size - 16 * j : Nat) : Int) else (16 : Int)) = ((min 16 (s.size - 16 * j) : Nat) : Int) from min_if 16 (s.size - 16 * j)])) ?_
  refine kl_nil fun u1 M => ?_
  refine rV 1 <| nT <| wp_seq ?_
  refine rg_yieldN 10 (by kernel_rfl) (fun _ _ h => by obtain ⟨⟨_, e⟩, _⟩ := h; cases e) ?_
  simp only [List.take_succ_cons, List.take_zero, List.drop_succ_cons, List.drop_zero]
  refine rV 1 <| ZE M 20 4 0 <| rV 3 ?_
  refine ZI 24 (((16 * j : Nat) : Int) + ((min 16 (s.size - 16 * j) : Nat) : Int)) ((16 * j + min 16 (s.size - 16 * j) : Nat) : Int) ?_
  refine rV 2 ?_
  refine ZI 27 (((16 * j : Nat) : Int) + ((min 16 (s.size - 16 * j) : Nat) : Int)) ((16 * j + min 16 (s.size - 16 * j) : Nat) : Int) ?_
  refine pH 28 (.slice (some ⟨gq, (16 * j), none⟩) (min 16 (s.size - 16 * j)) (min 16 (s.size - 16 * j))) (fun w => Eq.trans (run_slM 44 5 Tryz.underlying44 inz5 _ _ _ _ rfl gq 0 s.size cap (by kernel_rfl) .i64 .i64 .i64 (16 * j) (16 * j + min 16 (s.size - 16 * j)) (by kernel_rfl) (by kernel_rfl) (by kernel_rfl) (by omega) (by omega) w) (by rw [Nat.zero_add, Nat.add_sub_cancel_left])) ?_
  refine nT ?_
  refine pl_yield lp (lpr .ready none fn (tF gr gl gh v) sg bd D) #[.slice (some ⟨gq, (16 * j), none⟩) (min 16 (s.size - 16 * j)) (min 16 (s.size - 16 * j))] (M.get 7 rfl) rfl rfl (by kernel_rfl) (fun _ => by kernel_rfl) (want_no rfl) ?_
  refine code_is1 (O := Tryz.f104.body.bind findRange) rfl hb ?_
  refine fr_is (b := (fm (vr v 0 6 ++ [.pointer (some ⟨gr, 0, none⟩), .pointer (some ⟨gl, 0, none⟩), .pointer (some ⟨gh, 0, none⟩)] ++ vr v 9 13 ++ [.slice (some ⟨gq, (16 * j), none⟩) (min 16 (s.size - 16 * j)) (min 16 (s.size - 16 * j))] ++ vr v 23 11))) (by kernel_rfl) ?_
  refine rr_lit (by kernel_rfl) (fun _ _ h => h) ?_
  refine rV 1 <| nT ?_
  refine ⟨M.get 7 rfl, ?_⟩
  have M2 := M.putO 7 lp _ (.loop { lpr .ready none fn (tF gr gl gh v) sg bd D with state := .busy }) rfl
  refine fr_is (b := (fm (vr v 0 6 ++ [.pointer (some ⟨gr, 0, none⟩), .pointer (some ⟨gl, 0, none⟩), .pointer (some ⟨gh, 0, none⟩), .slice (some ⟨gq, (16 * j), none⟩) (min 16 (s.size - 16 * j)) (min 16 (s.size - 16 * j))] ++ vr v 10 12 ++ [.slice (some ⟨gq, (16 * j), none⟩) (min 16 (s.size - 16 * j)) (min 16 (s.size - 16 * j))] ++ vr v 23 11))) (by kernel_rfl) ?_
  refine r_body sg bd hb s r (sm s r j) j (by omega) gr gl gh gq cap lp Zl Zq hZ [⟨gs, .cells (av 1 (fun _ => .slice (some ⟨gq, 0, none⟩) s.size cap)) 44⟩, ⟨gn, .cells (av 1 (fun _ => .int .i64 16)) 3⟩, ⟨D, .deferred (some [])⟩, ⟨lp, .loop { lpr .ready none fn (tF gr gl gh v) sg bd D with state := .busy }⟩] (fun k_ => ([v 0, v 1, v 2, v 3, v 4, v 5, .pointer (some ⟨gr, 0, none⟩), .pointer (some ⟨gl, 0, none⟩), .pointer (some ⟨gh, 0, none⟩), .slice (some ⟨gq, (16 * j), none⟩) (min 16 (s.size - 16 * j)) (min 16 (s.size - 16 * j)), v 10, v 11, v 12, v 13, v 14, v 15, v 16, v 17, v 18, v 19, v 20, v 21, .slice (some ⟨gq, (16 * j), none⟩) (min 16 (s.size - 16 * j)) (min 16 (s.size - 16 * j)), v 23, v 24, v 25, v 26, v 27, v 28, v 29, v 30, v 31, v 32, v 33] : List Value).getD (k_ - 0) undef) c _ _ (fun _ _ h => h) (fun _ _ _ h => h) M2 ?_
  intro a9 u9 M3
  refine ⟨lpr .busy none fn (tF gr gl gh v) sg bd D, M3.get 7 rfl, ?_⟩
  have M4 := M3.putO 7 lp _ (.loop { lpr .busy none fn (tF gr gl gh v) sg bd D with state := .ready, pending := none }) rfl
  generalize u9.putObj lp _ = u8 at M4 ⊢
  clear M
  have M : Mem c [⟨gr, .cells (av 5 (w64 r)) 192⟩, ⟨gl, Zl⟩, ⟨gh, .cells (av 5 (w64 (sm s r (j + 1)))) 192⟩, ⟨gq, Zq⟩, ⟨gs, .cells (av 1 (fun _ => .slice (some ⟨gq, 0, none⟩) s.size cap)) 44⟩, ⟨gn, .cells (av 1 (fun _ => .int .i64 16)) 3⟩, ⟨D, .deferred (some [])⟩, ⟨lp, .loop (lpr .ready none fn (tF gr gl gh v) sg bd D)⟩] u8 := M4
  refine in_list (by kernel_rfl) (fun _ _ h => by obtain ⟨⟨_, e⟩, _⟩ := h; cases e) ?_
  refine rV 1 <| nT <| cF <| wp_skip ?_
  refine au_block ?_
  refine au_then ?_
  refine rg_lit ?_
  refine rV 1 <| ZE M 11 5 0 ?_
  refine ZI 12 (((16 * j : Nat) : Int) + 16) ((16 * (j + 1) : Nat) : Int) ?_
  refine rV 1 <| nT ?_
  exact exS M
 ·intro a u0 hI
  clear M
  obtain ⟨v1, rfl, M⟩ := hI
  refine wp_seq <| sR <| rV 1 <| ZE M 7 4 0 <| rV 1 ?_
  refine ZF 9 (((16 * N : Nat) : Int) < ((s.size : Nat) : Int)) ?_
  refine nT <| cF ?_
  refine wp_exit ?_
  refine au_then_exit ?_
  refine au_then_exit ?_
  refine au_block_exit ?_
  exact bodyPost_end (v := .tuple #[]) (results_none Tryz.results162 _ _) (by kernel_rfl) ⟨⟨_, rfl⟩, M⟩
open Go.RowKit
def rF (key : Yb) : Nat → Int := noF (fc2 (fc1 (pd (bt (key.extract 0 16)) 16)))
def lF (key : Yb) : Nat → Int := noF (pd (bt (key.extract 16 key.size)) 16)
def tgS (key s : Yb) : ByteArray := txS (plF (lsF (sm s (rF key) ((s.size + 15) / 16))) (lF key))
theorem c_iterT (sg bd : Code) (hb : Tryz.f104.body.bind findRange = some (sg, bd)) (s : Yb) (r : NI) (hz : s.size ≤ 200000) (gr gl gh gq gs gn lp D cap : Nat) (Zl Zq : Obj) (hZ : SB Zq cap (vs8 (sb s))) (hcap : s.size ≤ cap) (fn : FuncId) (v : NV) (T : Array Value) (hT : T = tF gr gl gh v) (c : Ctx) (u : World)
  (M : Mem c [⟨gr, .cells (av 5 (w64 r)) 192⟩, ⟨gl, Zl⟩, ⟨gh, .cells (av 5 (w64 (sm s r 0))) 192⟩, ⟨gq, Zq⟩, ⟨gs, .cells (av 1 (fun _ => .slice (some ⟨gq, 0, none⟩) s.size cap)) 44⟩, ⟨gn, .cells (av 1 (fun _ => .int .i64 16)) 3⟩, ⟨D, .deferred (some [])⟩, ⟨lp, .loop (lpr .ready none fn T sg bd D)⟩] u) : Calls Tryz.prog 162 #[.func (.yield lp) #[] #[], .pointer (some ⟨gs, 0, none⟩), .pointer (some ⟨gn, 0, none⟩)] u fun e u' => (∃ v, e = .returned v) ∧ ∃ q : Loop, q.state ≠ .busy ∧ q.pending = none ∧ Mem c [⟨gr, .cells (av 5 (w64 r)) 192⟩, ⟨gl, Zl⟩, ⟨gh, .cells (av 5 (w64 (sm s r ((s.size + 15) / 16)))) 192⟩, ⟨gq, Zq⟩, ⟨gs, .cells (av 1 (fun _ => .slice (some ⟨gq, 0, none⟩) s.size cap)) 44⟩, ⟨gn, .cells (av 1 (fun _ => .int .i64 16)) 3⟩, ⟨D, .deferred (some [])⟩, ⟨lp, .loop q⟩] u' := by
 subst hT
 exact (c_iter sg bd hb s r hz gr gl gh gq gs gn lp D cap Zl Zq hZ hcap fn v c u M).mono fun e u' h => ⟨h.1, lpr .ready none fn (tF gr gl gh v) sg bd D, (show LoopState.ready ≠ LoopState.busy by decide), rfl, h.2⟩
theorem c_TagA (key s : Yb) (hk : key.size = 32) (hz : s.size ≤ 200000) (w : World) (hL : Laid w) : Cs 104 #[.string key, .string s] w (.tuple #[.string (tgS key s), .int .i64 0]) := by
 refine (callsIn_wide (n := 0)).1 (callsIn_of_wp_marks Tryz.func104 rfl trivial ?_)
 refine (wpIn_wide (n := 0)).2 ?_
 refine fr_w (b := (fm ([.string key, .string s] ++ und 32))) (by kernel_rfl) ?_
 have M := Mem.start hL
 refine sq <| wp_seq <| sR <| rV 2 ?_
 refine ZD 12 ((key.size : Int) = 32) ?_
 refine nT <| cF <| wp_skip <| au_then <| wp_seq ?_
 refine rg_allocs M 6 [(6, fun g => .pointer (some ⟨g, 0, none⟩), (.cells (av 5 (w64 (fun _ => 0))) 192)), (7, fun g => .pointer (some ⟨g, 0, none⟩), (.cells (av 5 (w64 (fun _ => 0))) 192))] (by kernel_rfl) (by kernel_rfl) (⟨rfl, rfl, fun _ _ => by kernel_rfl, ⟨rfl, rfl, fun _ _ => by kernel_rfl, trivial⟩⟩) (by decide) ?_
 simp only [List.take_succ_cons, List.take_zero]
 refine kR 1 ?_
 refine kH 14 (.string (key.extract 0 16)) (run_strh 9 Tryz.underlying9 _ _ rfl key (by kernel_rfl) .i64 16 (by kernel_rfl) (by omega) _ rfl) ?_
 refine kC M 15 132 #[.string (key.extract 0 16)] (.agg (av 5 (w64 (rF key)))) (fun w M => c_factor _ (by rw [ByteArray.size_extract]; omega) w M.laid) ?_
 refine kR 1 ?_
 refine kH 17 (.string (key.extract 16 key.size)) (run_strl 9 Tryz.underlying9 _ _ rfl key (by kernel_rfl) .i64 16 (by kernel_rfl) (by omega) _ rfl) ?_
 refine kC M 18 133 #[.string (key.extract 16 key.size)] (.agg (av 5 (w64 (lF key)))) (fun w M => c_plain _ (by rw [ByteArray.size_extract]; omega) w M.laid) ?_
 refine kl_nil fun u1 g1 g2 M => ?_
 refine ZG M 0 5 (w64 (rF key)) fun u2 M => ?_
 refine ZG M 1 5 (w64 (lF key)) fun u3 M => ?_
 refine nT <| sR ?_
 refine pN M 8 (.cells (av 5 (w64 (fun _ => 0))) 192) fun g3 u4 M => ?_
 refine nT <| wp_seq <| sR <| rV 1 ?_
 refine pl_conv M (want_no rfl) (some 20) rfl _ rfl s (by kernel_rfl) ?_
 intro gq capq Zq u5 hZq M
 have hcap : s.size ≤ capq := by have := hZq.le; rwa [vs8_length, sb_length] at this
 refine pl_calltwo M (want_no rfl) (some 21) rfl 134 #[.slice (some ⟨gq, 0, none⟩) s.size capq, .int .i64 16] (fun g k => .func (.func 162) #[] #[.pointer (some ⟨g, 0, none⟩), .pointer (some ⟨k, 0, none⟩)]) (.cells (av 1 (fun _ => .slice (some ⟨gq, 0, none⟩) s.size capq)) 44) (.cells (av 1 (fun _ => .int .i64 16)) 3) (fun _ => by kernel_rfl) (fun w M => c_chunk gq s.size capq w M.laid) ?_
 intro gs gn u6 M
 refine nT ?_
 refine wp_block ?_
 refine fr_w (b := (fm ([.string key, .string s, undef, undef, .string ⟨#[]⟩, .int .i64 0, .pointer (some ⟨g1, 0, none⟩), .pointer (some ⟨g2, 0, none⟩), .pointer (some ⟨g3, 0, none⟩), undef, .string key, .int .i64 (key.size : Int), .bool false, .string key, .string (key.extract 0 16), .agg (av 5 (w64 (rF key))), .string key, .string (key.extract 16 key.size), .agg (av 5 (w64 (lF key))), .string s, .slice (some ⟨gq, 0, none⟩) s.size capq, .func (.func 162) #[] #[.pointer (some ⟨gs, 0, none⟩), .pointer (some ⟨gn, 0, none⟩)]] ++ und 12))) (by kernel_rfl) ?_
 refine wp_range (gf := 162) (lb := #[.pointer (some ⟨gs, 0, none⟩), .pointer (some ⟨gn, 0, none⟩)]) rfl (enters_of Tryz.func162 (by kernel_rfl) rfl) ?_
 intro fn
 refine (c_iterT _ _ rfl s (rF key) hz g1 g2 g3 gq gs gn _ _ capq _ Zq hZq hcap fn (fun k_ => ([.string key, .string s, undef, undef, .string ⟨#[]⟩, .int .i64 0, .pointer (some ⟨g1, 0, none⟩), .pointer (some ⟨g2, 0, none⟩), .pointer (some ⟨g3, 0, none⟩), undef, .string key, .int .i64 (key.size : Int), .bool false, .string key, .string (key.extract 0 16), .agg (av 5 (w64 (rF key))), .string key, .string (key.extract 16 key.size), .agg (av 5 (w64 (lF key))), .string s, .slice (some ⟨gq, 0, none⟩) s.size capq, .func (.func 162) #[] #[.pointer (some ⟨gs, 0, none⟩), .pointer (some ⟨gn, 0, none⟩)], undef, undef, undef, undef, undef, undef, undef, undef, undef, undef, undef, undef] : List Value).getD (k_ - 0) undef) _ (by kernel_rfl) ⟨w, []⟩ _ (M.alloc2 _ _)).mono ?_
 rintro e w3 ⟨he, q, hr1, hr2, M2⟩
 refine ⟨he, q, M2.get 7 rfl, hr1, ?_⟩
 rw [hr2]
 have M3 := M2.putO 7 _ _ (.loop { q with state := .exhausted, pending := none }) rfl
 clear M M2
 have M := M3
 refine au_block ?_
 refine au_then <| wp_seq ?_
 refine rg_tail M 6 (by kernel_rfl) (by kernel_rfl) ?_
 simp only [List.take_succ_cons, List.take_zero]
 refine kA M 29 2 5 (w64 (sm s (rF key) ((s.size + 15) / 16))) ?_
 refine kC M 30 138 #[.agg (av 5 (w64 (sm s (rF key) ((s.size + 15) / 16))))] (.agg (av 5 (w64 (lsF (sm s (rF key) ((s.size + 15) / 16)))))) (fun w M => c_least _ w M.laid) ?_
 refine kA M 31 1 5 (w64 (lF key)) ?_
 refine kC M 32 135 #[.agg (av 5 (w64 (lsF (sm s (rF key) ((s.size + 15) / 16))))), .agg (av 5 (w64 (lF key)))] (.agg (av 5 (w64 (plF (lsF (sm s (rF key) ((s.size + 15) / 16))) (lF key))))) (fun w M => c_plus _ _ w M.laid) ?_
 refine kC M 33 139 #[.agg (av 5 (w64 (plF (lsF (sm s (rF key) ((s.size + 15) / 16))) (lF key))))] (.string (tgS key s)) (fun w M => c_text _ w M.laid) ?_
 refine kR 1 ?_
 refine kl_nil fun u7 M => ?_
 refine rV 1 <| nT <| wp_ret ?_
 refine marks_ret (v := .tuple #[.string (tgS key s), .int .i64 0]) rfl (M.get 6 rfl) (fun w => results_tmp2 Tryz.results104 _ w _ _ (by kernel_rfl) (by kernel_rfl)) ⟨rfl, below_grown (M.putO 6 _ _ (.deferred none) rfl).old⟩
open Go.RowKit
theorem ua_eq (x y : Int) (h0 : 0 ≤ x + y) (h1 : x + y < 18446744073709551616) : ua x y = x + y := by
 unfold ua
 simp [IntKind.wrap, IntKind.signed, IntKind.bits]
 omega
theorem um_eq (x y : Int) (h0 : 0 ≤ x * y) (h1 : x * y < 18446744073709551616) : um x y = x * y := by
 unfold um
 simp [IntKind.wrap, IntKind.signed, IntKind.bits]
 omega
theorem sl_eq (x : Int) (n : Nat) (h0 : 0 ≤ x * 2 ^ n) (h1 : x * 2 ^ n < 18446744073709551616) : sl x n = x * 2 ^ n := by
 unfold sl
 simp [IntKind.wrap, IntKind.signed, IntKind.bits]
 omega
theorem sr_eq (x : Int) (n : Nat) : sr x n = x / 2 ^ n := by
 unfold sr
 rw [Int.fdiv_eq_ediv_of_nonneg x (Int.le_of_lt (Int.pow_pos (by decide)))]
theorem cv8_eq (x : Int) : cv .u8 x = x % 256 := by
 unfold cv
 simp [IntKind.wrap, IntKind.signed, IntKind.bits]
theorem cv64_eq (x : Int) (h0 : 0 ≤ x) (h1 : x < 18446744073709551616) : cv .u64 x = x := by
 unfold cv
 simp [IntKind.wrap, IntKind.signed, IntKind.bits]
 omega
theorem wrap_bv (b : BitVec 64) : IntKind.wrap .u64 (b.toNat : Int) = (b.toNat : Int) := by
 have := b.isLt
 simp [IntKind.wrap, IntKind.signed, IntKind.bits]
 omega
theorem bv_nat (n : Nat) (h : n < 18446744073709551616) : (BitVec.ofInt 64 (n : Int)).toNat = n := by
 rw [BitVec.toNat_ofInt]
 omega
theorem un_nat (n m : Nat) (hn : n < 18446744073709551616) (hm : m < 18446744073709551616) : un (n : Int) (m : Int) = ((n &&& m : Nat) : Int) := by
 unfold un
 rw [wrap_bv, BitVec.toNat_and, bv_nat n hn, bv_nat m hm]
theorem uo_nat (n m : Nat) (hn : n < 18446744073709551616) (hm : m < 18446744073709551616) : uo (n : Int) (m : Int) = ((n ||| m : Nat) : Int) := by
 unfold uo
 rw [wrap_bv, BitVec.toNat_or, bv_nat n hn, bv_nat m hm]
theorem un_low (k : Nat) (hk : k ≤ 63) (x : Int) (h0 : 0 ≤ x) (h1 : x < 18446744073709551616) : un x (((2 ^ k - 1 : Nat) : Nat) : Int) = x % ((2 ^ k : Nat) : Int) := by
 obtain ⟨n, rfl⟩ : ∃ n : Nat, x = (n : Int) := ⟨x.toNat, by omega⟩
 have hp : 2 ^ k ≤ 2 ^ 63 := Nat.pow_le_pow_right (by decide) hk
 rw [un_nat n _ (by omega) (by omega), Nat.and_two_pow_sub_one_eq_mod]
 omega
theorem un26 (x : Int) (h0 : 0 ≤ x) (h1 : x < 18446744073709551616) : un x 67108863 = x % 67108864 := un_low 26 (by decide) x h0 h1
theorem uo_add (k : Nat) (x y : Int) (h0 : 0 ≤ x) (h1 : x < ((2 ^ k : Nat) : Int)) (h2 : 0 ≤ y) (h3 : x + y * ((2 ^ k : Nat) : Int) < 18446744073709551616) : uo x (y * ((2 ^ k : Nat) : Int)) = x + y * ((2 ^ k : Nat) : Int) := by
 obtain ⟨n, rfl⟩ : ∃ n : Nat, x = (n : Int) := ⟨x.toNat, by omega⟩
 obtain ⟨m, rfl⟩ : ∃ m : Nat, y = (m : Int) := ⟨y.toNat, by omega⟩
 have hn : n < 2 ^ k := by omega
 have e : ((m : Int) * ((2 ^ k : Nat) : Int)) = ((2 ^ k * m : Nat) : Int) := by rw [Nat.mul_comm, Int.natCast_mul]
 rw [e] at h3 ⊢
 rw [uo_nat n _ (by omega) (by omega), Nat.or_comm, ← Nat.two_pow_add_eq_or_of_lt hn]
 omega
def V (b : Int) : Nat → (Nat → Int) → Int
 | 0, _ => 0
 | n + 1, f => V b n f + f n * b ^ n
theorem V_congr (b : Int) : ∀ (n : Nat) (f g : NI), (∀ i, i < n → f i = g i) → V b n f = V b n g
 | 0, _, _, _ => rfl
 | n + 1, f, g, h => by
  unfold V
  rw [V_congr b n f g (fun i hi => h i (by omega)), h n (by omega)]
theorem V_upd (b : Int) : ∀ (n : Nat) (f : NI) (k : Nat) (x : Int), k < n → V b n (upd f k x) = V b n f + (x - f k) * b ^ k
 | 0, _, _, _, h => absurd h (by omega)
 | n + 1, f, k, x, h => by
  unfold V
  by_cases e : k = n
  ·subst e
   rw [V_congr b k (upd f k x) f (fun i hi => if_neg (by omega)), show upd f k x k = x from if_pos rfl, Int.sub_mul]
   omega
  ·rw [V_upd b n f k x (by omega), show upd f k x n = f n from if_neg (by omega)]
   omega
theorem V_add (b : Int) : ∀ (n : Nat) (f g : NI), V b n (fun i => f i + g i) = V b n f + V b n g
 | 0, _, _ => rfl
 | n + 1, f, g => by
  unfold V
  rw [V_add b n f g, Int.add_mul]
  omega
theorem V_mul (b c : Int) : ∀ (n : Nat) (f : NI), V b n (fun i => c * f i) = c * V b n f
 | 0, _ => by simp [V]
 | n + 1, f => by
  unfold V
  rw [V_mul b c n f, Int.mul_add, Int.mul_assoc]
theorem V_split (b : Int) (n : Nat) : ∀ (m : Nat) (f : NI), V b (n + m) f = V b n f + b ^ n * V b m (fun i => f (n + i))
 | 0, _ => by simp [V]
 | m + 1, f => by
  show V b (n + m) f + f (n + m) * b ^ (n + m) = _
  rw [V_split b n m f]
  show _ = V b n f + b ^ n * (V b m (fun i => f (n + i)) + f (n + m) * b ^ m)
  rw [Int.mul_add, Int.pow_add]
  have : f (n + m) * (b ^ n * b ^ m) = b ^ n * (f (n + m) * b ^ m) := by grind
  omega
theorem V_nn (b : Int) (hb : 0 ≤ b) : ∀ (n : Nat) (f : NI), (∀ i, i < n → 0 ≤ f i) → 0 ≤ V b n f
 | 0, _, _ => by simp [V]
 | n + 1, f, h => by
  unfold V
  have h1 := V_nn b hb n f (fun i hi => h i (by omega))
  have h2 := Int.mul_nonneg (h n (by omega)) (show (0 : Int) ≤ b ^ n from Int.pow_nonneg hb)
  omega
theorem V_le (b : Int) (hb : 2 ≤ b) (c : Int) (hc : 0 ≤ c) : ∀ (n : Nat) (f : NI), (∀ i, i < n → f i ≤ c * (b - 1)) → V b n f ≤ c * (b ^ n - 1)
 | 0, _, _ => by simp [V]
 | n + 1, f, h => by
  unfold V
  have h1 := V_le b hb c hc n f (fun i hi => h i (by omega))
  have hp : 0 ≤ b ^ n := Int.pow_nonneg (by omega)
  have h2 := Int.mul_le_mul_of_nonneg_right (h n (by omega)) hp
  have e : c * (b - 1) * b ^ n = c * (b ^ (n + 1) - 1) - c * (b ^ n - 1) := by
   rw [Int.pow_succ]
   grind
  omega
theorem V_lt (b : Int) (hb : 2 ≤ b) (n : Nat) (f : NI) (h : ∀ i, i < n → f i < b) : V b n f < b ^ n := by
 have := V_le b hb 1 (by decide) n f (fun i hi => by have := h i hi; omega)
 omega
structure Ch (b : Int) (a : NI) (j : Nat) (c : Int) (s : NI) : Prop where
 c0 : 0 ≤ c
 c1 : c < 4611686018427387904
 val : V b j s + c * b ^ j = V b j a
 dig : ∀ i, i < j → 0 ≤ s i ∧ s i < b
theorem chain (m : Int) (sh : Nat) (b : Int) (hb : 2 ≤ b) (hm : ∀ x, 0 ≤ x → x < 18446744073709551616 → un x m = x % b) (hs : ∀ x, sr x sh = x / b) (a : NI) : ∀ (j : Nat), (∀ i, i < j → 0 ≤ a i ∧ a i < 4611686018427387904) → Ch b a j (cy sh a j) (st m sh a j)
 | 0, _ => ⟨by simp [cy], by simp [cy], by simp [V, cy], fun i hi => absurd hi (by omega)⟩
 | j + 1, h => by
  have ih := chain m sh b hb hm hs a j (fun i hi => h i (by omega))
  have hj := h j (by omega)
  have c0 := ih.c0
  have c1 := ih.c1
  have e1 : ua (a j) (cy sh a j) = a j + cy sh a j := ua_eq _ _ (by omega) (by omega)
  have e2 : cy sh a (j + 1) = (a j + cy sh a j) / b := by
   show sr (ua (a j) (cy sh a j)) sh = _
   rw [e1, hs]
  have e3 : st m sh a (j + 1) = upd (st m sh a j) j ((a j + cy sh a j) % b) := by
   show upd (st m sh a j) j (un (ua (a j) (cy sh a j)) m) = _
   rw [e1, hm _ (by omega) (by omega)]
  have hx : 0 ≤ a j + cy sh a j := by omega
  have hx1 : a j + cy sh a j < 9223372036854775808 := by omega
  have hv := ih.val
  have hd := ih.dig
  rw [e2, e3]
  generalize cy sh a j = c at *
  generalize st m sh a j = s at *
  have q0 : 0 ≤ (a j + c) / b := Int.ediv_nonneg hx (by omega)
  have r0 : 0 ≤ (a j + c) % b := Int.emod_nonneg _ (by omega)
  have r1 : (a j + c) % b < b := Int.emod_lt_of_pos _ (by omega)
  have eq : (a j + c) % b + b * ((a j + c) / b) = a j + c := Int.emod_add_mul_ediv _ _
  refine ⟨q0, ?_, ?_, ?_⟩
  ·have : 2 * ((a j + c) / b) ≤ b * ((a j + c) / b) := Int.mul_le_mul_of_nonneg_right hb q0
   omega
  ·unfold V
   rw [V_congr b j (upd s j _) s (fun i hi => if_neg (by omega)), show upd s j ((a j + c) % b) j = (a j + c) % b from if_pos rfl, Int.pow_succ]
   generalize (a j + c) / b = q at *
   generalize (a j + c) % b = r at *
   have e : r * b ^ j + q * (b ^ j * b) = (a j + c) * b ^ j := by
    rw [← eq]
    grind
   rw [Int.add_mul] at e
   omega
  ·intro i hi
   by_cases e : i = j
   ·subst e
    rw [show upd s i ((a i + c) % b) i = (a i + c) % b from if_pos rfl]
    exact ⟨r0, r1⟩
   ·rw [show upd s j ((a j + c) % b) i = s i from if_neg e]
    exact hd i (by omega)
theorem sr26 (x : Int) : sr x 26 = x / 67108864 := sr_eq x 26
theorem chain26 (a : NI) (j : Nat) (h : ∀ i, i < j → 0 ≤ a i ∧ a i < 4611686018427387904) : Ch 67108864 a j (cy 26 a j) (st 67108863 26 a j) := chain 67108863 26 67108864 (by decide) un26 sr26 a j h
theorem Ch.cut {b : Int} {a s : NI} {j : Nat} {c : Int} (h : Ch b a j c s) (hb : 2 ≤ b) : c = V b j a / b ^ j ∧ V b j s = V b j a % b ^ j := by
 have h0 := V_nn b (by omega) j s (fun i hi => (h.dig i hi).1)
 have h1 := V_lt b hb j s (fun i hi => (h.dig i hi).2)
 have hp : 0 < b ^ j := Int.pow_pos (by omega)
 rw [← h.val]
 constructor
 ·rw [Int.add_mul_ediv_right _ _ (by omega), Int.ediv_eq_zero_of_lt h0 h1]
  omega
 ·rw [Int.add_mul_emod_self_right, Int.emod_eq_of_lt h0 h1]
open Go.RowKit
theorem pB5 : (67108864 : Int) ^ 5 = 1361129467683753853853498429727072845824 := by decide
theorem s5_val (a : NI) (h : ∀ i, i < 5 → 0 ≤ a i ∧ a i < 4611686018427387904) : (c5 a = V 67108864 5 a / 1361129467683753853853498429727072845824 ∧ V 67108864 5 (s5 a) = V 67108864 5 a % 1361129467683753853853498429727072845824) ∧ (∀ i, i < 5 → 0 ≤ s5 a i ∧ s5 a i < 67108864) ∧ 0 ≤ c5 a ∧ c5 a < 4611686018427387904 := by
 have C := chain26 a 5 h
 have H := C.cut (by decide)
 rw [pB5] at H
 exact ⟨H, C.dig, C.c0, C.c1⟩
theorem V0 (b : Int) (n : Nat) (f : NI) (x : Int) (h : 0 < n) : V b n (upd f 0 x) = V b n f + (x - f 0) := by
 rw [V_upd b n f 0 x h]
 simp
theorem up_at (f : NI) (k : Nat) (x : Int) : upd f k x k = x := if_pos rfl
theorem up_ne (f : NI) (k : Nat) (x : Int) {j : Nat} (h : j ≠ k) : upd f k x j = f j := if_neg h
theorem cr1_val (a : NI) (h : ∀ i, i < 5 → 0 ≤ a i ∧ a i < 1152921504606846976) : V 67108864 5 (cr1 a) = V 67108864 5 a % 1361129467683753853853498429727072845824 + 5 * (V 67108864 5 a / 1361129467683753853853498429727072845824) ∧ (∀ i, i < 5 → 0 ≤ cr1 a i ∧ cr1 a i < 67108864 + 5 * (V 67108864 5 a / 1361129467683753853853498429727072845824)) ∧ 0 ≤ V 67108864 5 a / 1361129467683753853853498429727072845824 ∧ V 67108864 5 a / 1361129467683753853853498429727072845824 < 34359738368 := by
 obtain ⟨⟨h1, h2⟩, h3, h4, h5⟩ := s5_val a (fun i hi => by have := h i hi; omega)
 have n0 := V_nn 67108864 (by decide) 5 a (fun i hi => (h i hi).1)
 have n1 := V_le 67108864 (by decide) 34359738368 (by decide) 5 a (fun i hi => by have := h i hi; omega)
 rw [pB5] at n1
 have q0 : 0 ≤ V 67108864 5 a / 1361129467683753853853498429727072845824 := by omega
 have q1 : V 67108864 5 a / 1361129467683753853853498429727072845824 < 34359738368 := by omega
 have z := h3 0 (by decide)
 have e : cr1 a = upd (s5 a) 0 (s5 a 0 + 5 * (V 67108864 5 a / 1361129467683753853853498429727072845824)) := by
  unfold cr1
  rw [h1]
  generalize V 67108864 5 a / 1361129467683753853853498429727072845824 = q at *
  rw [um_eq q 5 (by omega) (by omega), ua_eq _ _ (by omega) (by omega), Int.mul_comm]
 refine ⟨?_, ?_, q0, q1⟩
 ·rw [e, V0 _ _ _ _ (by decide), h2]
  omega
 ·intro i hi
  have := h3 i hi
  rw [e]
  by_cases c : i = 0
  ·subst c
   rw [up_at]
   omega
  ·rw [up_ne _ _ _ c]
   omega
structure Good (h : NI) : Prop where
 part : ∀ i, i < 5 → 0 ≤ h i ∧ h i < 67108870
 lt : V 67108864 5 h < 1361129467683753853853498429727072845824
theorem Good.nn {h : NI} (g : Good h) : 0 ≤ V 67108864 5 h := V_nn _ (by decide) 5 h (fun i hi => (g.part i hi).1)
theorem cr_val (a : NI) (h : ∀ i, i < 5 → 0 ≤ a i ∧ a i < 1152921504606846976) : Good (crF a) ∧ ∃ k, V 67108864 5 a = V 67108864 5 (crF a) + k * 1361129467683753853853498429727072845819 := by
 obtain ⟨h1, h2, h3, h4⟩ := cr1_val a h
 have n0 := V_nn 67108864 (by decide) 5 a (fun i hi => (h i hi).1)
 obtain ⟨g1, g2, g3, g4⟩ := cr1_val (cr1 a) (fun i hi => by have := h2 i hi; omega)
 have e : crF a = cr1 (cr1 a) := rfl
 rw [h1] at g1 g2 g3
 rw [e]
 have f1 : V 67108864 5 (cr1 (cr1 a)) < 1361129467683753853853498429727072845824 := by
  rw [g1]
  generalize V 67108864 5 a = v at *
  omega
 have f2 : (V 67108864 5 a % 1361129467683753853853498429727072845824 + 5 * (V 67108864 5 a / 1361129467683753853853498429727072845824)) / 1361129467683753853853498429727072845824 ≤ 1 := by
  generalize V 67108864 5 a = v at *
  omega
 refine ⟨⟨fun i hi => ?_, f1⟩, V 67108864 5 a / 1361129467683753853853498429727072845824 + (V 67108864 5 a % 1361129467683753853853498429727072845824 + 5 * (V 67108864 5 a / 1361129467683753853853498429727072845824)) / 1361129467683753853853498429727072845824, ?_⟩
 ·have := g2 i hi
  omega
 ·rw [g1]
  generalize V 67108864 5 a = v at *
  omega
theorem pls_at (a b : NI) : ∀ n i, pls a b n i = if i < n then ua (a i) (b i) else a i
 | 0, i => by rw [if_neg (by omega)]; rfl
 | n + 1, i => by
  unfold pls
  by_cases e : i = n
  ·subst e
   rw [up_at, pls_at a b i i, if_neg (by omega), if_pos (by omega)]
  ·rw [up_ne _ _ _ e, pls_at a b n i]
   by_cases h : i < n
   ·rw [if_pos h, if_pos (by omega)]
   ·rw [if_neg h, if_neg (by omega)]
theorem pl_val' (a b : NI) (ha : ∀ i, i < 5 → 0 ≤ a i ∧ a i < 134217728) (hb : ∀ i, i < 5 → 0 ≤ b i ∧ b i < 134217728) : (∀ i, i < 5 → 0 ≤ plF a b i ∧ plF a b i < 268435456) ∧ V 67108864 5 (plF a b) = V 67108864 5 a + V 67108864 5 b := by
 have e : ∀ i, i < 5 → plF a b i = a i + b i := fun i hi => by
  have h1 := ha i hi
  have h2 := hb i hi
  unfold plF
  rw [pls_at, if_pos hi, ua_eq _ _ (by omega) (by omega)]
 refine ⟨fun i hi => ?_, ?_⟩
 ·rw [e i hi]
  have h1 := ha i hi
  have h2 := hb i hi
  omega
 ·rw [V_congr _ 5 _ (fun i => a i + b i) e, V_add]
theorem tr_val (b : Int) (m : Nat) (x y P : NI) (n i : Nat) (hm : ∀ j, j < n → i + j < m) (M C : Int) (hM : 0 ≤ M) (hC : C + M < 4611686018427387904) (hP : ∀ k, 0 ≤ P k ∧ P k ≤ C) (hxy : ∀ j, j < n → 0 ≤ x i * y j ∧ x i * y j ≤ M) :
  ∀ j, j ≤ n → (∀ k, 0 ≤ tr P x y i j k ∧ tr P x y i j k ≤ (if k < i + j then C + M else C)) ∧ V b m (tr P x y i j) = V b m P + x i * b ^ i * V b j y
 | 0, _ => by
  refine ⟨fun k => ?_, ?_⟩
  ·have := hP k
   show 0 ≤ P k ∧ P k ≤ _
   split <;> omega
  ·show V b m P = _
   simp [V]
 | j + 1, h => by
  obtain ⟨h1, h2⟩ := tr_val b m x y P n i hm M C hM hC hP hxy j (by omega)
  have hp := hxy j (by omega)
  have hq := h1 (i + j)
  rw [if_neg (by omega)] at hq
  have e : tr P x y i (j + 1) = upd (tr P x y i j) (i + j) (tr P x y i j (i + j) + x i * y j) := by
   show upd (tr P x y i j) (i + j) (ua (tr P x y i j (i + j)) (um (x i) (y j))) = _
   rw [um_eq _ _ hp.1 (by omega), ua_eq _ _ (by omega) (by omega)]
  rw [e]
  refine ⟨fun k => ?_, ?_⟩
  ·by_cases c : k = i + j
   ·subst c
    rw [up_at, if_pos (by omega)]
    omega
   ·rw [up_ne _ _ _ c]
    have h3 := h1 k
    by_cases d : k < i + j
    ·rw [if_pos d] at h3
     rw [if_pos (by omega)]
     exact h3
    ·rw [if_neg d] at h3
     rw [if_neg (by omega)]
     exact h3
  ·rw [V_upd b m _ _ _ (hm j (by omega)), h2]
   show _ = V b m P + x i * b ^ i * (V b j y + y j * b ^ j)
   rw [Int.pow_add]
   grind
theorem tp_val (b : Int) (m n : Nat) (x y : NI) (hm : ∀ i j, i < n → j < n → i + j < m) (M : Int) (hM : 0 ≤ M) (hC : (n : Int) * M < 4611686018427387904) (hxy : ∀ i j, i < n → j < n → 0 ≤ x i * y j ∧ x i * y j ≤ M) :
  ∀ i, i ≤ n → (∀ k, 0 ≤ tp n x y i k ∧ tp n x y i k ≤ (i : Int) * M) ∧ V b m (tp n x y i) = V b i x * V b n y
 | 0, _ => by
  refine ⟨fun k => by simp [tp], ?_⟩
  have : ∀ m, V b m (fun _ => 0) = 0 := fun m => by
   induction m with
   | zero => rfl
   | succ m ih => simp [V, ih]
  show V b m (fun _ => 0) = _
  rw [this]
  simp [V]
 | i + 1, h => by
  obtain ⟨h1, h2⟩ := tp_val b m n x y hm M hM hC hxy i (by omega)
  have e : ((i + 1 : Nat) : Int) * M = (i : Int) * M + M := by
   rw [Int.natCast_add, Int.add_mul]
   simp
  have hle : ((i + 1 : Nat) : Int) * M ≤ (n : Int) * M := Int.mul_le_mul_of_nonneg_right (by omega) hM
  obtain ⟨g1, g2⟩ := tr_val b m x y (tp n x y i) n i (fun j hj => hm i j (by omega) hj) M ((i : Int) * M) hM (by omega) h1 (fun j hj => hxy i j (by omega) hj) n (Nat.le_refl _)
  refine ⟨fun k => ?_, ?_⟩
  ·have h3 := g1 k
   show 0 ≤ tr (tp n x y i) x y i n k ∧ tr (tp n x y i) x y i n k ≤ _
   rw [e]
   split at h3 <;> omega
  ·show V b m (tr (tp n x y i) x y i n) = (V b i x + x i * b ^ i) * V b n y
   rw [g2, h2, Int.add_mul]
theorem tlo_at (P : NI) : ∀ n k, tlo P n k = if k < n then ua (P k) (um (P (5 + k)) 5) else P k
 | 0, k => by rw [if_neg (by omega)]; rfl
 | n + 1, k => by
  unfold tlo
  by_cases e : k = n
  ·subst e
   rw [up_at, tlo_at P k k, if_neg (by omega), if_pos (by omega)]
  ·rw [up_ne _ _ _ e, tlo_at P n k]
   by_cases h : k < n
   ·rw [if_pos h, if_pos (by omega)]
   ·rw [if_neg h, if_neg (by omega)]
theorem tm_val (x y : NI) (hx : ∀ i, i < 5 → 0 ≤ x i ∧ x i < 268435456) (hy : ∀ i, i < 5 → 0 ≤ y i ∧ y i < 67108864) : Good (tmF x y) ∧ ∃ k, V 67108864 5 x * V 67108864 5 y = V 67108864 5 (tmF x y) + k * 1361129467683753853853498429727072845819 := by
 obtain ⟨h1, h2⟩ := tp_val 67108864 9 5 x y (fun i j hi hj => by omega) 18014398509481984 (by decide) (by decide) (fun i j hi hj => by
  have a := hx i hi
  have c := hy j hj
  refine ⟨Int.mul_nonneg a.1 c.1, ?_⟩
  have := Int.mul_le_mul (show x i ≤ 268435456 by omega) (show y j ≤ 67108864 by omega) c.1 (by decide)
  exact this) 5 (Nat.le_refl _)
 unfold tmF
 generalize tp 5 x y 5 = P at *
 have hP : ∀ k, 0 ≤ P k ∧ P k ≤ 90071992547409920 := fun k => by
  have := h1 k
  omega
 have e : ∀ i, i < 5 → tlo P 4 i = P i + (if i < 4 then 5 * P (5 + i) else 0) := fun i hi => by
  have a := hP i
  have c := hP (5 + i)
  rw [tlo_at]
  by_cases d : i < 4
  ·rw [if_pos d, if_pos d, um_eq _ _ (by omega) (by omega), ua_eq _ _ (by omega) (by omega), Int.mul_comm]
  ·rw [if_neg d, if_neg d, Int.add_zero]
 obtain ⟨g, k, hk⟩ := cr_val (tlo P 4) (fun i hi => by
  have a := hP i
  have c := hP (5 + i)
  rw [e i hi]
  split <;> omega)
 refine ⟨g, k + V 67108864 4 (fun i => P (5 + i)), ?_⟩
 have f : V 67108864 5 (tlo P 4) = V 67108864 5 P + 5 * V 67108864 4 (fun i => P (5 + i)) := by
  rw [V_congr _ 5 _ (fun i => P i + (if i < 4 then 5 * P (5 + i) else 0)) e, V_add, ← V_mul]
  show V 67108864 5 P + (V 67108864 4 (fun i => if i < 4 then 5 * P (5 + i) else 0) + (if 4 < 4 then 5 * P (5 + 4) else 0) * 67108864 ^ 4) = _
  rw [V_congr _ 4 (fun i => if i < 4 then 5 * P (5 + i) else 0) (fun i => 5 * P (5 + i)) (fun i hi => if_pos hi), if_neg (by decide)]
  omega
 have s := V_split 67108864 5 4 P
 rw [pB5] at s
 rw [← h2]
 have s2 : V 67108864 9 P = V 67108864 5 P + 1361129467683753853853498429727072845824 * V 67108864 4 (fun i => P (5 + i)) := s
 rw [s2]
 generalize V 67108864 4 (fun i => P (5 + i)) = hi at *
 omega
theorem ls_val (a : NI) (g : Good a) : (∀ i, i < 5 → 0 ≤ lsF a i ∧ lsF a i < 67108864) ∧ V 67108864 5 (lsF a) = V 67108864 5 a % 1361129467683753853853498429727072845819 := by
 have n0 := g.nn
 have n1 := g.lt
 have p0 := g.part 0 (by decide)
 have e1 : mo5 a = upd a 0 (a 0 + 5) := by
  unfold mo5
  rw [ua_eq _ _ (by omega) (by omega)]
 obtain ⟨⟨h1, -⟩, -, h4, h5⟩ := s5_val (mo5 a) (fun i hi => by
  have := g.part i hi
  rw [e1]
  by_cases c : i = 0
  ·subst c
   rw [up_at]
   omega
  ·rw [up_ne _ _ _ c]
   omega)
 rw [e1, V0 _ _ _ _ (by decide)] at h1
 have e2 : lsF a = s5 (upd a 0 (a 0 + 5 * c5 (mo5 a))) := by
  unfold lsF
  rw [e1]
  generalize c5 (upd a 0 (a 0 + 5)) = q at *
  have : q ≤ 1 := by
   rw [h1]
   omega
  rw [um_eq _ _ (by rw [← e1] at *; omega) (by omega), ua_eq _ _ (by omega) (by omega), Int.mul_comm]
 rw [← e1] at h1
 generalize c5 (mo5 a) = q at *
 have q1 : q ≤ 1 := by
  rw [h1]
  omega
 have q0 : 0 ≤ q := by
  rw [h1]
  omega
 obtain ⟨⟨-, k2⟩, k3, -, -⟩ := s5_val (upd a 0 (a 0 + 5 * q)) (fun i hi => by
  have := g.part i hi
  by_cases c : i = 0
  ·subst c
   rw [up_at]
   omega
  ·rw [up_ne _ _ _ c]
   omega)
 rw [e2]
 refine ⟨k3, ?_⟩
 rw [k2, V0 _ _ _ _ (by decide)]
 generalize V 67108864 5 a = v at *
 clear k2 k3 e2
 rcases (show q = 0 ∨ q = 1 by omega) with rfl | rfl
 ·omega
 ·omega
open Go.RowKit
theorem pw_id : ∀ j, j < 17 → (67108864 : Int) ^ (8 * j / 26) * 2 ^ (8 * j % 26) = 256 ^ j := by decide +kernel
theorem pw_small : ∀ j, j < 17 → (0 : Int) < 2 ^ (8 * j % 26) ∧ (2 : Int) ^ (8 * j % 26) ≤ 33554432 ∧ ((2 ^ (8 * j % 26) : Nat) : Int) = 2 ^ (8 * j % 26) := by decide +kernel
theorem nof_val (p : NI) : ∀ j, j ≤ 17 → (∀ i, i < j → 0 ≤ p i ∧ p i < 256) → (∀ k, 0 ≤ nof p j k ∧ nof p j k < 8589934592 ∧ nof p j k * 67108864 ^ k < 256 ^ j) ∧ V 67108864 5 (nof p j) = V 256 j p
 | 0, _, _ => by
  refine ⟨fun k => ?_, by simp [nof, V]⟩
  show (0 : Int) ≤ 0 ∧ (0 : Int) < _ ∧ (0 : Int) * _ < 256 ^ 0
  simp
 | j + 1, h, hp => by
  obtain ⟨h1, h2⟩ := nof_val p j (by omega) (fun i hi => hp i (by omega))
  have hj := hp j (by omega)
  have e := pw_id j (by omega)
  obtain ⟨s0, s1, s2⟩ := pw_small j (by omega)
  obtain ⟨a0, a1, a2⟩ := h1 (8 * j / 26)
  have hk : 8 * j / 26 < 5 := by omega
  have B0 : (0 : Int) < 67108864 ^ (8 * j / 26) := Int.pow_pos (by decide)
  have e2 : nof p (j + 1) = upd (nof p j) (8 * j / 26) (uo (nof p j (8 * j / 26)) (sl (cv .u64 (p j)) (8 * j % 26))) := rfl
  generalize 8 * j / 26 = k at *
  generalize 8 * j % 26 = r at *
  generalize hS : (2 : Int) ^ r = S at *
  have lt : nof p j k < S := by
   rw [← e] at a2
   refine Int.lt_of_mul_lt_mul_left (a := 67108864 ^ k) ?_ (Int.le_of_lt B0)
   rw [Int.mul_comm]
   exact a2
  have m0 : 0 ≤ p j * S := Int.mul_nonneg hj.1 (by omega)
  have m1 : p j * S ≤ 255 * S := Int.mul_le_mul_of_nonneg_right (by omega) (by omega)
  have e3 : nof p (j + 1) = upd (nof p j) k (nof p j k + p j * S) := by
   rw [e2, cv64_eq _ hj.1 (by omega), sl_eq _ _ (by rw [hS]; exact m0) (by rw [hS]; omega), hS, ← s2]
   rw [← s2] at lt m0 m1 s1
   rw [uo_add r _ _ a0 lt hj.1 (by omega)]
  rw [e3]
  refine ⟨fun i => ?_, ?_⟩
  ·by_cases c : i = k
   ·subst c
    rw [up_at]
    refine ⟨by omega, by omega, ?_⟩
    have l : nof p j i + p j * S < 256 * S := by omega
    have l2 := Int.mul_lt_mul_of_pos_right l B0
    rw [Int.pow_succ, ← e]
    have l3 : 256 * S * 67108864 ^ i = 67108864 ^ i * S * 256 := by grind
    rw [← l3]
    exact l2
   ·rw [up_ne _ _ _ c]
    obtain ⟨b0, b1, b2⟩ := h1 i
    refine ⟨b0, b1, ?_⟩
    rw [Int.pow_succ]
    have : (0 : Int) < 256 ^ j := Int.pow_pos (by decide)
    omega
  ·rw [V_upd _ 5 _ _ _ hk, h2]
   show _ = V 256 j p + p j * 256 ^ j
   rw [← e]
   grind
theorem p256 : (256 : Int) ^ 16 = 340282366920938463463374607431768211456 := by decide
theorem noF_val (p : NI) (hp : ∀ i, i < 17 → 0 ≤ p i ∧ p i < 256) (h16 : p 16 ≤ 1) : (∀ i, i < 5 → 0 ≤ noF p i ∧ noF p i < 67108864) ∧ V 67108864 5 (noF p) = V 256 17 p := by
 obtain ⟨h1, h2⟩ := nof_val p 17 (Nat.le_refl _) hp
 obtain ⟨⟨-, k2⟩, k3, -, -⟩ := s5_val (nof p 17) (fun i _ => by have := h1 i; omega)
 refine ⟨k3, ?_⟩
 have e : V 67108864 5 (noF p) = V 67108864 5 (nof p 17) % 1361129467683753853853498429727072845824 := k2
 rw [e, h2]
 have n0 := V_nn 256 (by decide) 17 p (fun i hi => (hp i hi).1)
 have n1 := V_lt 256 (by decide) 16 p (fun i hi => (hp i (by omega)).2)
 rw [p256] at n1
 have s : V 256 17 p = V 256 16 p + p 16 * 256 ^ 16 := rfl
 rw [p256] at s
 exact Int.emod_eq_of_lt n0 (by omega)
theorem V_pd (b : Int) (f : NI) (n : Nat) : ∀ m, n ≤ m → V b m (pd f n) = V b n f
 | 0, h => by
  obtain rfl : n = 0 := by omega
  rfl
 | m + 1, h => by
  by_cases e : n = m + 1
  ·subst e
   exact V_congr b _ _ _ fun i hi => if_pos hi
  ·show V b m (pd f n) + pd f n m * b ^ m = _
   rw [V_pd b f n m (by omega), show pd f n m = 0 from if_neg (by omega)]
   omega
theorem pd_nn (f : NI) (n : Nat) (hf : ∀ i, 0 ≤ f i ∧ f i < 256) (i : Nat) : 0 ≤ pd f n i ∧ pd f n i < 256 := by
 unfold pd
 split
 ·exact hf i
 ·decide
def qN (f : NI) (n : Nat) : Int := V 256 n f + 256 ^ n
theorem mk_val (f : NI) (n : Nat) (hn : n ≤ 16) (hf : ∀ i, 0 ≤ f i ∧ f i < 256) : (∀ i, i < 5 → 0 ≤ noF (mk f n) i ∧ noF (mk f n) i < 67108864) ∧ V 67108864 5 (noF (mk f n)) = qN f n := by
 have hb : ∀ i, 0 ≤ mk f n i ∧ mk f n i < 256 := fun i => by
  unfold mk
  by_cases c : i = n
  ·rw [c, up_at]
   decide
  ·rw [up_ne _ _ _ c]
   exact pd_nn f n hf i
 have h16 : mk f n 16 ≤ 1 := by
  unfold mk
  by_cases c : 16 = n
  ·rw [c, up_at]
   decide
  ·rw [up_ne _ _ _ c, show pd f n 16 = 0 from if_neg (by omega)]
   decide
 obtain ⟨h1, h2⟩ := noF_val (mk f n) (fun i _ => hb i) h16
 refine ⟨h1, ?_⟩
 rw [h2]
 unfold mk qN
 rw [V_upd _ 17 _ _ _ (by omega), V_pd _ _ _ 17 (by omega), show pd f n n = 0 from if_neg (by omega)]
 omega
def rB (b : NI) (i : Nat) : Int := if i = 3 ∨ i = 7 ∨ i = 11 ∨ i = 15 then b i % 16 else if i = 4 ∨ i = 8 ∨ i = 12 then b i - b i % 4 else b i
theorem nb8_15 (x : Int) (h0 : 0 ≤ x) (h1 : x < 256) : nb8 x 15 = x % 16 := by
 have h : ∀ n : Nat, n < 256 → nb8 (n : Int) 15 = (n : Int) % 16 := by decide +kernel
 have := h x.toNat (by omega)
 rwa [show ((x.toNat : Nat) : Int) = x by omega] at this
theorem db8_3 (x : Int) (h0 : 0 ≤ x) (h1 : x < 256) : db8 x 3 = x - x % 4 := by
 have h : ∀ n : Nat, n < 256 → db8 (n : Int) 3 = (n : Int) - (n : Int) % 4 := by decide +kernel
 have := h x.toNat (by omega)
 rwa [show ((x.toNat : Nat) : Int) = x by omega] at this
theorem rB_nn (b : NI) (hb : ∀ i, 0 ≤ b i ∧ b i < 256) (i : Nat) : 0 ≤ rB b i ∧ rB b i < 256 := by
 have := hb i
 unfold rB
 split
 ·omega
 ·split <;> omega
theorem fc_at (b : NI) (hb : ∀ i, 0 ≤ b i ∧ b i < 256) (i : Nat) (hi : i < 17) : fc2 (fc1 (pd b 16)) i = pd (rB b) 16 i := by
 have e : ∀ k, k < 16 → pd b 16 k = b k := fun k hk => if_pos hk
 have x15 : ∀ k, k < 16 → nb8 (pd b 16 k) 15 = b k % 16 := fun k hk => by rw [e k hk, nb8_15 _ (hb k).1 (hb k).2]
 have x3 : ∀ k, k < 16 → db8 (pd b 16 k) 3 = b k - b k % 4 := fun k hk => by rw [e k hk, db8_3 _ (hb k).1 (hb k).2]
 have f4 : fc1 (pd b 16) 4 = pd b 16 4 := rfl
 have f8 : fc1 (pd b 16) 8 = pd b 16 8 := rfl
 have f12 : fc1 (pd b 16) 12 = pd b 16 12 := rfl
 have hc : i = 0 ∨ i = 1 ∨ i = 2 ∨ i = 3 ∨ i = 4 ∨ i = 5 ∨ i = 6 ∨ i = 7 ∨ i = 8 ∨ i = 9 ∨ i = 10 ∨ i = 11 ∨ i = 12 ∨ i = 13 ∨ i = 14 ∨ i = 15 ∨ i = 16 := by omega
 rcases hc with rfl | rfl | rfl | rfl | rfl | rfl | rfl | rfl | rfl | rfl | rfl | rfl | rfl | rfl | rfl | rfl | rfl
 ·rfl
 ·rfl
 ·rfl
 ·exact x15 3 (by decide)
 ·exact (congrArg (fun z => db8 z 3) f4).trans (x3 4 (by decide))
 ·rfl
 ·rfl
 ·exact x15 7 (by decide)
 ·exact (congrArg (fun z => db8 z 3) f8).trans (x3 8 (by decide))
 ·rfl
 ·rfl
 ·exact x15 11 (by decide)
 ·exact (congrArg (fun z => db8 z 3) f12).trans (x3 12 (by decide))
 ·rfl
 ·rfl
 ·exact x15 15 (by decide)
 ·rfl
theorem fc_val (b : NI) (hb : ∀ i, 0 ≤ b i ∧ b i < 256) : (∀ i, i < 5 → 0 ≤ noF (fc2 (fc1 (pd b 16))) i ∧ noF (fc2 (fc1 (pd b 16))) i < 67108864) ∧ V 67108864 5 (noF (fc2 (fc1 (pd b 16)))) = V 256 16 (rB b) := by
 have e := fc_at b hb
 obtain ⟨h1, h2⟩ := noF_val (fc2 (fc1 (pd b 16))) (fun i hi => by rw [e i hi]; exact pd_nn _ _ (rB_nn b hb) i) (by rw [e 16 (by decide)]; exact (by decide : (0 : Int) ≤ 1))
 refine ⟨h1, ?_⟩
 rw [h2, V_congr 256 17 _ _ e, V_pd _ _ _ 17 (by decide)]
theorem plain_val (b : NI) (hb : ∀ i, 0 ≤ b i ∧ b i < 256) : (∀ i, i < 5 → 0 ≤ noF (pd b 16) i ∧ noF (pd b 16) i < 67108864) ∧ V 67108864 5 (noF (pd b 16)) = V 256 16 b := by
 obtain ⟨h1, h2⟩ := noF_val (pd b 16) (fun i _ => pd_nn b 16 hb i) (by exact (by decide : (0 : Int) ≤ 1))
 refine ⟨h1, ?_⟩
 rw [h2, V_pd _ _ _ 17 (by decide)]
def dgt (X : Int) (i : Nat) : Int := X / 256 ^ i % 256
theorem dq (i : Nat) (hi : i < 16) : ∃ Q : Int, (2 : Int) ^ (8 * i % 26) * (256 * Q) = 67108864 ^ 2 := ⟨2 ^ (44 - 8 * i % 26), (by decide +kernel : ∀ i, i < 16 → (2 : Int) ^ (8 * i % 26) * (256 * 2 ^ (44 - 8 * i % 26)) = 67108864 ^ 2) i hi⟩
theorem dm (i : Nat) (hi : i < 16) : ∃ Q : Int, (256 : Int) ^ i * (256 * Q) = 1361129467683753853853498429727072845824 := ⟨2 ^ (122 - 8 * i), (by decide +kernel : ∀ i, i < 16 → (256 : Int) ^ i * (256 * 2 ^ (122 - 8 * i)) = 1361129467683753853853498429727072845824) i hi⟩
theorem dgt_add (X Y D Q : Int) (hD : 0 < D) : (X + D * (256 * Q) * Y) / D % 256 = X / D % 256 := by
 rw [Int.mul_assoc, Int.add_mul_ediv_left _ _ (by omega), Int.mul_assoc, Int.add_mul_emod_self_left]
theorem dgt_mod (X : Int) (i : Nat) (hi : i < 16) : dgt (X % 1361129467683753853853498429727072845824) i = dgt X i := by
 obtain ⟨Q, hQ⟩ := dm i hi
 have e := Int.emod_add_mul_ediv X 1361129467683753853853498429727072845824
 have h := dgt_add (X % 1361129467683753853853498429727072845824) (X / 1361129467683753853853498429727072845824) (256 ^ i) Q (Int.pow_pos (by decide))
 rw [hQ, e] at h
 exact h.symm
theorem tb_val (a : NI) (ha : ∀ i, i < 5 → 0 ≤ a i ∧ a i < 67108864) (i : Nat) (hi : i < 16) : tb a i = dgt (V 67108864 5 a) i := by
 have h6 : ∀ k, 0 ≤ p6 a k ∧ p6 a k < 67108864 := fun k => by
  unfold p6
  split
  ·rename_i h
   exact ha k h
  ·decide
 have e7 : V 67108864 5 a = V 67108864 7 (p6 a) := by
  have : V 67108864 7 (p6 a) = V 67108864 5 (p6 a) + p6 a 5 * 67108864 ^ 5 + p6 a 6 * 67108864 ^ 6 := rfl
  rw [this, show p6 a 5 = 0 from rfl, show p6 a 6 = 0 from rfl, V_congr _ 5 a (p6 a) (fun i hi => (if_pos hi).symm)]
  omega
 have hk : 8 * i / 26 ≤ 4 := by omega
 have ep := pw_id i (by omega)
 obtain ⟨s0, s1, s2⟩ := pw_small i (by omega)
 obtain ⟨Q, hQ⟩ := dq i hi
 unfold tb dgt
 rw [e7, ← ep]
 generalize 8 * i / 26 = k at *
 generalize 8 * i % 26 = r at *
 have x0 := h6 k
 have x1 := h6 (k + 1)
 have t1 : sl (p6 a (k + 1)) 26 = p6 a (k + 1) * 67108864 := sl_eq _ 26 (by omega) (by omega)
 have t2 : uo (p6 a k) (p6 a (k + 1) * 67108864) = p6 a k + p6 a (k + 1) * 67108864 := uo_add 26 _ _ x0.1 x0.2 x1.1 (by omega)
 rw [cv8_eq, t1, t2, sr_eq]
 have sp := V_split 67108864 k (2 + (5 - k)) (p6 a)
 rw [show k + (2 + (5 - k)) = 7 by omega] at sp
 have sp2 := V_split 67108864 2 (5 - k) (fun i => p6 a (k + i))
 have sp3 : V 67108864 2 (fun i => p6 a (k + i)) = p6 a k + p6 a (k + 1) * 67108864 := by
  show (0 + p6 a (k + 0) * 67108864 ^ 0) + p6 a (k + 1) * 67108864 ^ 1 = _
  simp
 rw [sp3] at sp2
 rw [sp2] at sp
 have l0 := V_nn 67108864 (by decide) k (p6 a) (fun i _ => (h6 i).1)
 have l1 := V_lt 67108864 (by decide) k (p6 a) (fun i _ => (h6 i).2)
 have B0 : (0 : Int) < 67108864 ^ k := Int.pow_pos (by decide)
 rw [sp, ← Int.ediv_ediv_of_nonneg (Int.le_of_lt B0), Int.add_mul_ediv_left _ _ (by omega), Int.ediv_eq_zero_of_lt l0 l1, Int.zero_add, ← hQ, dgt_add _ _ _ _ s0]
theorem tx_val (a : NI) (ha : ∀ i, i < 5 → 0 ≤ a i ∧ a i < 4611686018427387904) : txS a = bs ((List.range 16).map (dgt (V 67108864 5 a))) := by
 obtain ⟨⟨-, k2⟩, k3, -, -⟩ := s5_val a ha
 unfold txS
 congr 1
 refine List.map_congr_left fun i hi => ?_
 have hi' := List.mem_range.1 hi
 rw [tb_val _ k3 i hi', k2, dgt_mod _ i hi']
def hN (r : Int) (q : NI) : Nat → Int
 | 0 => 0
 | j + 1 => ((hN r q j + q j) * r) % 1361129467683753853853498429727072845819
def qS (s : Yb) (j : Nat) : Int := qN (fun i => bt s (16 * j + i)) (min 16 (s.size - 16 * j))
def tagZ (key s : Yb) : Int := hN (V 256 16 (rB (bt key))) (qS s) ((s.size + 15) / 16) + V 256 16 (fun i => bt key (16 + i))
def tagS (key s : Yb) : ByteArray := bs ((List.range 16).map (dgt (tagZ key s)))
theorem hN_step {r : Int} {q : NI} {j : Nat} {A B k : Int} (h : A % 1361129467683753853853498429727072845819 = hN r q j) (e : (A + q j) * r = B + k * 1361129467683753853853498429727072845819) : B % 1361129467683753853853498429727072845819 = hN r q (j + 1) := by
 have h1 : B % 1361129467683753853853498429727072845819 = ((A + q j) * r) % 1361129467683753853853498429727072845819 := by
  rw [e, Int.add_mul_emod_self_right]
 rw [h1]
 show _ = ((hN r q j + q j) * r) % 1361129467683753853853498429727072845819
 have e2 : (A + q j) * r = (A % 1361129467683753853853498429727072845819 + q j) * r + 1361129467683753853853498429727072845819 * (A / 1361129467683753853853498429727072845819 * r) := by
  have e3 := Int.emod_add_mul_ediv A 1361129467683753853853498429727072845819
  generalize A % 1361129467683753853853498429727072845819 = x at *
  generalize A / 1361129467683753853853498429727072845819 = y at *
  rw [← e3]
  grind
 rw [← h, e2, Int.add_mul_emod_self_left]
theorem good0 : Good (fun _ => 0) := ⟨fun _ _ => by decide, by decide⟩
theorem sm_val (s : Yb) (r : NI) (hr : ∀ i, i < 5 → 0 ≤ r i ∧ r i < 67108864) : ∀ j, Good (sm s r j) ∧ V 67108864 5 (sm s r j) % 1361129467683753853853498429727072845819 = hN (V 67108864 5 r) (qS s) j
 | 0 => ⟨good0, (by decide : V 67108864 5 (fun _ => 0) % 1361129467683753853853498429727072845819 = 0)⟩
 | j + 1 => by
  obtain ⟨g, h⟩ := sm_val s r hr j
  obtain ⟨m1, m2⟩ := mk_val (fun i => bt s (16 * j + i)) (min 16 (s.size - 16 * j)) (Nat.min_le_left _ _) (fun i => bt_nn s _)
  obtain ⟨p1, p2⟩ := pl_val' (sm s r j) (noF (mk (fun i => bt s (16 * j + i)) (min 16 (s.size - 16 * j)))) (fun i hi => by have := g.part i hi; omega) (fun i hi => by have := m1 i hi; omega)
  obtain ⟨g2, k, hk⟩ := tm_val _ r p1 hr
  refine ⟨g2, hN_step h (k := k) ?_⟩
  rw [p2, m2] at hk
  exact hk
theorem bt_sub (s : Yb) (p q j : Nat) (hj : j < q - p) (hq : q ≤ s.size) : bt (s.extract p q) j = bt s (p + j) := by
 unfold bt
 rw [ByteArray.data_extract, Array.getElem?_extract, if_pos (by show j < min q s.data.size - p; have : s.size = s.data.size := rfl; omega)]
theorem rB_congr (b c : NI) (h : ∀ i, i < 16 → b i = c i) (i : Nat) (hi : i < 16) : rB b i = rB c i := by
 unfold rB
 rw [h i hi]
theorem tg_val (key s : Yb) (hk : key.size = 32) : tgS key s = tagS key s := by
 obtain ⟨r1, r2⟩ := fc_val (bt (key.extract 0 16)) (bt_nn _)
 obtain ⟨l1, l2⟩ := plain_val (bt (key.extract 16 key.size)) (bt_nn _)
 have er : V 67108864 5 (rF key) = V 256 16 (rB (bt key)) := by
  refine r2.trans (V_congr _ _ _ _ (rB_congr _ _ fun i hi => ?_))
  rw [bt_sub key 0 16 i (by omega) (by omega), Nat.zero_add]
 have el : V 67108864 5 (lF key) = V 256 16 (fun i => bt key (16 + i)) := by
  refine l2.trans (V_congr _ _ _ _ fun i hi => ?_)
  rw [bt_sub key 16 key.size i (by omega) (by omega)]
 obtain ⟨g, h⟩ := sm_val s (rF key) r1 ((s.size + 15) / 16)
 obtain ⟨v1, v2⟩ := ls_val _ g
 obtain ⟨p1, p2⟩ := pl_val' (lsF (sm s (rF key) ((s.size + 15) / 16))) (lF key) (fun i hi => by have := v1 i hi; omega) (fun i hi => by have : 0 ≤ lF key i ∧ lF key i < 67108864 := l1 i hi; omega)
 unfold tgS tagS tagZ
 rw [tx_val _ (fun i hi => by have := p1 i hi; omega), p2, v2, h, er, el]
open Go.RowKit
theorem wrap8_bv (b : BitVec 8) : IntKind.wrap .u8 (b.toNat : Int) = (b.toNat : Int) := by
 have := b.isLt
 simp [IntKind.wrap, IntKind.signed, IntKind.bits]
 omega
theorem bv8_nat (n : Nat) (h : n < 256) : (BitVec.ofInt 8 (n : Int)).toNat = n := by
 rw [BitVec.toNat_ofInt]
 omega
theorem ob8_nn (x y : Int) : 0 ≤ ob8 x y ∧ ob8 x y < 256 := by
 unfold ob8
 rw [wrap8_bv]
 have := (BitVec.ofInt 8 x ||| BitVec.ofInt 8 y).isLt
 omega
theorem ob8_zero (x y : Int) (hx : 0 ≤ x ∧ x < 256) (hy : 0 ≤ y ∧ y < 256) : ob8 x y = 0 ↔ x = 0 ∧ y = 0 := by
 obtain ⟨n, rfl⟩ : ∃ n : Nat, x = (n : Int) := ⟨x.toNat, by omega⟩
 obtain ⟨m, rfl⟩ : ∃ m : Nat, y = (m : Int) := ⟨y.toNat, by omega⟩
 unfold ob8
 rw [wrap8_bv, BitVec.toNat_or, bv8_nat n (by omega), bv8_nat m (by omega)]
 have : n ||| m = 0 ↔ n = 0 ∧ m = 0 := Nat.or_eq_zero_iff
 omega
theorem xb_zero (x y : Int) (hx : 0 ≤ x ∧ x < 256) (hy : 0 ≤ y ∧ y < 256) : xb x y = 0 ↔ x = y := by
 obtain ⟨n, rfl⟩ : ∃ n : Nat, x = (n : Int) := ⟨x.toNat, by omega⟩
 obtain ⟨m, rfl⟩ : ∃ m : Nat, y = (m : Int) := ⟨y.toNat, by omega⟩
 unfold xb
 rw [wrap8_bv, BitVec.toNat_xor, bv8_nat n (by omega), bv8_nat m (by omega)]
 have : n ^^^ m = 0 ↔ n = m := ⟨fun h => by
  have e : n ^^^ m ^^^ m = m := by rw [h, Nat.zero_xor]
  rw [Nat.xor_assoc, Nat.xor_self, Nat.xor_zero] at e
  exact e, fun h => by rw [h, Nat.xor_self]⟩
 omega
def ul (a b : Yb) : Nat → Int
 | 0 => 0
 | j + 1 => ob8 (ul a b j) (xb (bt a j) (bt b j))
theorem ul_nn (a b : Yb) (n : Nat) : 0 ≤ ul a b n ∧ ul a b n < 256 := by
 cases n with
 | zero => exact ⟨by simp [ul], by simp [ul]⟩
 | succ n => exact ob8_nn _ _
theorem ul_zero (a b : Yb) : ∀ n, ul a b n = 0 ↔ ∀ i, i < n → bt a i = bt b i
 | 0 => ⟨fun _ i hi => absurd hi (by omega), fun _ => rfl⟩
 | n + 1 => by
  show ob8 (ul a b n) (xb (bt a n) (bt b n)) = 0 ↔ _
  rw [ob8_zero _ _ (ul_nn a b n) (xb_nn _ _), ul_zero a b n, xb_zero _ _ (bt_nn a n) (bt_nn b n)]
  constructor
  ·rintro ⟨h1, h2⟩ i hi
   by_cases e : i = n
   ·rw [e, h2]
   ·exact h1 i (by omega)
  ·intro h
   exact ⟨fun i hi => h i (by omega), h n (by omega)⟩
theorem bt_ext (a b : Yb) (hs : a.size = b.size) (h : ∀ i, i < a.size → bt a i = bt b i) : a = b := by
 have e : sb a = sb b := by
  refine List.ext_getElem? fun i => ?_
  by_cases hi : i < a.size
  ·rw [sb_get a i hi, sb_get b i (by omega), h i hi]
  ·rw [List.getElem?_eq_none (by rw [sb_length]; omega), List.getElem?_eq_none (by rw [sb_length]; omega)]
 rw [← bs_sb a, e, bs_sb]
theorem ul_eq (a b : Yb) (hs : a.size = b.size) : (ul a b a.size = 0) ↔ a = b := by
 rw [ul_zero]
 constructor
 ·exact bt_ext a b hs
 ·rintro rfl i _
  rfl
theorem c_sameA (x y : Yb) (h : x.size ≠ y.size) (w : World) (hL : Laid w)  : Cs 76 #[.string x, .string y] w (.bool false) := by
 go_enter Tryz.func76, Tryz.ntmps76
 have M := Mem.start hL
 refine sq <| wp_seq <| sR <| rV 4 ?_
 refine ZS 11 ((x.size : Int) = (y.size : Int)) ?_
 refine nT <| cT <| sq <| wp_ret <| au_then_ret ?_
 exact b1 M
theorem c_sameB (x y : Yb) (h : x.size = y.size) (e : x = y) (hz : x.size ≤ 200000) (w : World) (hL : Laid w)  : Cs 76 #[.string x, .string y] w (.bool true) := by
 go_enter Tryz.func76, Tryz.ntmps76
 have M := Mem.start hL
 refine sq <| wp_seq <| sR <| rV 4 ?_
 refine ZD 11 ((x.size : Int) = (y.size : Int)) ?_
 refine nT <| cF <| wp_skip <| au_then <| sq ?_
 refine wp_seq <| sq ?_
 refine wp_block ?_
 refine au_loop (fun j a w' => ∃ v1 : NV, a = (fm ([.string x, .string y, undef, undef, .bool false, .int .u8 (ul x y j), v1 6, .string x, .int .i64 (x.size : Int), .string y, .int .i64 (y.size : Int), .bool false, .string x, .int .i64 (x.size : Int), .int .i64 (j : Int)] ++ vr v1 15 12 ++ [undef, undef])) ∧ Mem ⟨w, []⟩ [] w') x.size (exS M) ?_ ?_
 ·intro j a u0 hj hI
  obtain ⟨v1, rfl, M⟩ := hI
  refine sR ?_
  refine ZT 15 ((j : Int) < (x.size : Int)) ?_
  refine nT <| wp_seq <| cT <| wp_skip <| au_then ?_
  refine wp_seq ?_
  refine wp_block ?_
  refine sq ?_
  refine rg_tail M 9 (by kernel_rfl) (by kernel_rfl) ?_
  simp only [List.take_succ_cons, List.take_zero]
  refine kR 3 ?_
  refine kH 20 (.int .u8 (bt x j)) (run_ixS 9 Tryz.underlying9 _ _ rfl x (by kernel_rfl) .i64 j (by kernel_rfl) (by omega)) ?_
  refine kR 2 ?_
  refine kH 23 (.int .u8 (bt y j)) (run_ixS 9 Tryz.underlying9 _ _ rfl y (by kernel_rfl) .i64 j (by kernel_rfl) (by omega)) ?_
  refine kR 2 ?_
  refine kl_nil fun u1 M => ?_
  refine rV 1 ?_
  refine pl_nil ?_
  refine au_block ?_
  refine au_then ?_
  refine rg_lit ?_
  refine ZI 26 ((j : Int) + 1) ((j + 1 : Nat) : Int) ?_
  refine rV 1 <| nT ?_
  exact exS M
 ·intro a u0 hI
  obtain ⟨v1, rfl, M⟩ := hI
  refine sR ?_
  refine ZF 15 ((x.size : Int) < (x.size : Int)) ?_
  refine nT <| wp_seq <| cF ?_
  refine wp_exit ?_
  refine au_then_exit ?_
  refine au_then_exit ?_
  refine au_block_exit ?_
  refine au_then <| sR <| rV 1 ?_
  refine pH 28 (.bool true) (jT (ul x y x.size = 0) ((ul_eq x y h).2 e)) ?_
  refine rV 1 <| nT <| wp_ret ?_
  exact b1 M
theorem c_sameC (x y : Yb) (h : x.size = y.size) (e : x ≠ y) (hz : x.size ≤ 200000) (w : World) (hL : Laid w)  : Cs 76 #[.string x, .string y] w (.bool false) := by
 go_enter Tryz.func76, Tryz.ntmps76
 have M := Mem.start hL
 refine sq <| wp_seq <| sR <| rV 4 ?_
 refine ZD 11 ((x.size : Int) = (y.size : Int)) ?_
 refine nT <| cF <| wp_skip <| au_then <| sq ?_
 refine wp_seq <| sq ?_
 refine wp_block ?_
 refine au_loop (fun j a w' => ∃ v1 : NV, a = (fm ([.string x, .string y, undef, undef, .bool false, .int .u8 (ul x y j), v1 6, .string x, .int .i64 (x.size : Int), .string y, .int .i64 (y.size : Int), .bool false, .string x, .int .i64 (x.size : Int), .int .i64 (j : Int)] ++ vr v1 15 12 ++ [undef, undef])) ∧ Mem ⟨w, []⟩ [] w') x.size (exS M) ?_ ?_
 ·intro j a u0 hj hI
  obtain ⟨v1, rfl, M⟩ := hI
  refine sR ?_
  refine ZT 15 ((j : Int) < (x.size : Int)) ?_
  refine nT <| wp_seq <| cT <| wp_skip <| au_then ?_
  refine wp_seq ?_
  refine wp_block ?_
  refine sq ?_
  refine rg_tail M 9 (by kernel_rfl) (by kernel_rfl) ?_
  simp only [List.take_succ_cons, List.take_zero]
  refine kR 3 ?_
  refine kH 20 (.int .u8 (bt x j)) (run_ixS 9 Tryz.underlying9 _ _ rfl x (by kernel_rfl) .i64 j (by kernel_rfl) (by omega)) ?_
  refine kR 2 ?_
  refine kH 23 (.int .u8 (bt y j)) (run_ixS 9 Tryz.underlying9 _ _ rfl y (by kernel_rfl) .i64 j (by kernel_rfl) (by omega)) ?_
  refine kR 2 ?_
  refine kl_nil fun u1 M => ?_
  refine rV 1 ?_
  refine pl_nil ?_
  refine au_block ?_
  refine au_then ?_
  refine rg_lit ?_
  refine ZI 26 ((j : Int) + 1) ((j + 1 : Nat) : Int) ?_
  refine rV 1 <| nT ?_
  exact exS M
 ·intro a u0 hI
  obtain ⟨v1, rfl, M⟩ := hI
  refine sR ?_
  refine ZF 15 ((x.size : Int) < (x.size : Int)) ?_
  refine nT <| wp_seq <| cF ?_
  refine wp_exit ?_
  refine au_then_exit ?_
  refine au_then_exit ?_
  refine au_block_exit ?_
  refine au_then <| sR <| rV 1 ?_
  refine pH 28 (.bool false) (jF (ul x y x.size = 0) (fun k => e ((ul_eq x y h).1 k))) ?_
  refine rV 1 <| nT <| wp_ret ?_
  exact b1 M
theorem c_same (x y : Yb) (hz : x.size ≤ 200000) (w : World) (hL : Laid w) : Cs 76 #[.string x, .string y] w (.bool (decide (x = y))) := by
 by_cases h : x.size = y.size
 ·by_cases e : x = y
  ·rw [decide_eq_true e]
   exact c_sameB x y h e hz w hL
  ·rw [decide_eq_false e]
   exact c_sameC x y h e hz w hL
 ·rw [decide_eq_false (fun e => h (by rw [e]))]
  exact c_sameA x y h w hL
theorem c_Tag (key s : Yb) (hk : key.size = 32) (hz : s.size ≤ 200000) (w : World) (hL : Laid w) : Cs 104 #[.string key, .string s] w (.tuple #[.string (tagS key s), .int .i64 0]) := by
 rw [← tg_val key s hk]
 exact c_TagA key s hk hz w hL
theorem tagS_size (key s : Yb) : (tagS key s).size = 16 := by
 unfold tagS
 rw [bs_size]
 simp
end Go.Proofs.YtiahdbibeleakaaGreatDoor.Pol
namespace Go.Proofs.YtiahdbibeleakaaGreatDoor
open Go.RowKit
def wb (n : Int) (i : Nat) : Int := cv .u8 (sr n (8 * i))
def wbs (n : Int) : Nat → (Nat → Int)
 | 0 => fun _ => 0
 | j + 1 => upd (wbs n j) j (wb n j)
theorem wbs_at (n : Int) : ∀ m, ∀ i, i < m → wbs n m i = wb n i
 | 0, i, h => absurd h (by omega)
 | m + 1, i, h => by
  unfold wbs upd
  by_cases e : i = m
  ·rw [if_pos e, e]
  ·rw [if_neg e, wbs_at n m i (by omega)]
theorem wbs_map (n : Int) : (List.range 8).map (wbs n 8) = (List.range 8).map (wb n) := List.map_congr_left fun i hi => wbs_at n 8 i (List.mem_range.1 hi)
theorem wb_nn (n : Int) : ∀ y ∈ (List.range 8).map (wb n), 0 ≤ y ∧ y < 256 := fun y hy => by
 obtain ⟨i, _, rfl⟩ := List.mem_map.1 hy
 exact cv8_nn _
def wS (n : Int) : ByteArray := bs ((List.range 8).map (wb n))
theorem wS_size (n : Int) : (wS n).size = 8 := by
 unfold wS
 rw [bs_size]
 simp
def zB (n : Nat) : ByteArray := bs ((List.range n).map fun _ => 0)
theorem zB_size (n : Nat) : (zB n).size = n := by
 unfold zB
 rw [bs_size]
 simp
theorem z_nn (n : Nat) : ∀ x ∈ (List.range n).map fun _ => (0 : Int), 0 ≤ x ∧ x < 256 := fun x hx => by
 obtain ⟨i, _, rfl⟩ := List.mem_map.1 hx
 decide
theorem rem16 (n : Nat) : Int.tmod (n : Int) 16 = ((n % 16 : Nat) : Int) := by
 rw [Int.tmod_eq_emod_of_nonneg (by omega)]
 omega
def nS (n : Int) : ByteArray := zB 4 ++ wS n
theorem nS_size (n : Int) : (nS n).size = 12 := by
 unfold nS
 rw [ByteArray.size_append, zB_size, wS_size]
theorem c_word (n : Int) (w : World) (hL : Laid w)  : Cs 72 #[.int .u64 n] w (.string (wS n)) := by
 go_enter Tryz.func72, Tryz.ntmps72
 have M := Mem.start hL
 refine sq <| sR ?_
 refine pN M 3 (.cells (av 8 (w8 (fun _ => 0))) 156) fun g1 u1 M => ?_
 refine nT <| wp_seq <| sq ?_
 refine wp_block ?_
 refine au_loop (fun j a w' => ∃ v1 : NV, a = (fm ([.int .u64 n, v1 1, .string ⟨#[]⟩, .pointer (some ⟨g1, 0, none⟩), v1 4, .int .i64 (j : Int)] ++ vr v1 6 12)) ∧ Mem ⟨w, []⟩ [⟨g1, .cells (av 8 (w8 (wbs n j))) 156⟩] w') 8 (exS M) ?_ ?_
 ·intro j a u0 hj hI
  obtain ⟨v1, rfl, M⟩ := hI
  refine sR ?_
  refine ZT 6 ((j : Int) < 8) ?_
  refine nT <| wp_seq <| cT <| wp_skip <| au_then ?_
  refine wp_seq ?_
  refine wp_block ?_
  refine sq ?_
  refine rg_lit ?_
  refine rV 3 ?_
  refine ZI 11 (8 * (j : Int)) ((8 * j : Nat) : Int) ?_
  refine pH 12 (.int .u64 (sr n (8 * j))) (Pol.run_shrU 33 3 _ _ rfl _ .i64 (8 * j) (by kernel_rfl) (by kernel_rfl) (by omega)) ?_
  refine rV 1 ?_
  refine ZX 14 .i64 g1 (j) 8 ?_
  refine ZP8 M 0 j (cv .u8 (sr n (8 * j))) fun u2 M => ?_
  refine pl_nil ?_
  refine au_block ?_
  refine au_then ?_
  refine rg_lit ?_
  refine ZI 15 ((j : Int) + 1) ((j + 1 : Nat) : Int) ?_
  refine rV 1 <| nT ?_
  exact exS M
 ·intro a u0 hI
  obtain ⟨v1, rfl, M⟩ := hI
  refine sR ?_
  refine ZF 6 (8 < 8) ?_
  refine nT <| wp_seq <| cF ?_
  refine wp_exit ?_
  refine au_then_exit ?_
  refine au_then_exit ?_
  refine au_block_exit ?_
  refine au_then <| sR <| rV 1 ?_
  refine pl_back M (want_no rfl) (some 17) rfl _ rfl 0 g1 8 8 (by kernel_rfl) _ rfl ((List.range 8).map (wbs n 8)) 8 (sb_av 8 _ _) (by simp) (by rw [wbs_map]; exact wb_nn _) ?_
  rw [wbs_map]
  refine rV 1 <| nT <| wp_ret ?_
  exact b1 M
def pn (m : Nat) : Nat := (16 - m % 16) % 16
theorem pn_lt (m : Nat) : pn m < 16 := Nat.mod_lt _ (by decide)
section
variable {P : Program} {ops : Array Oper} {o o2 : Oper} {a : Act} {w : World} {Q : Exit → Act → World → Prop} {S : World → Prop} {n fuel : Nat} {listed : Array Bool}
theorem hl_two (i j : Nat) (hin : i < n) (hjn : j < n) (hr : Region.ready .any ops listed = [i, j]) (hi : ops.toList[i]? = some o) (hj : ops.toList[j]? = some o2)
  (h : PL P ops (Exit.then (fun a' w' => S w' ∧ HL P ops Q S n fuel (listed.setIfInBounds i true) a' w') Q) [o] a w)
  (h2 : PL P ops (Exit.then (fun a' w' => S w' ∧ HL P ops Q S n fuel (listed.setIfInBounds j true) a' w') Q) [o2] a w) : HL P ops Q S n (fuel + 1) listed a w := by
 refine ⟨fun hQ hB inv => ⟨fun h0 => (by rw [hr] at h0; cases h0), fun m hm => ?_⟩⟩
 have hm' := hm
 rw [hr] at hm
 rcases List.mem_cons.1 hm with rfl | hm
 ·exact wpOp_mono (fun a' w' h3 => ⟨fun _ => h3.1, h3.2.out hQ hB (inv.set hm' hin)⟩) (wpOp_one (by rw [← Array.getElem?_toList]; exact hi) h.out)
 ·obtain rfl := List.mem_singleton.1 hm
  exact wpOp_mono (fun a' w' h3 => ⟨fun _ => h3.1, h3.2.out hQ hB (inv.set hm' hjn)⟩) (wpOp_one (by rw [← Array.getElem?_toList]; exact hj) h2.out)
end
theorem c_Nonce (n : Int) (w : World) (hL : Laid w)  : Cs 47 #[.int .u64 n] w (.string (nS n)) := by
 go_enter Tryz.func47, Tryz.ntmps47
 have M := Mem.start hL
 refine sq <| wp_seq ?_
 refine rgh M [] 5 fun u1 M => ?_
 refine qV M 2 5 (.int .u64 n) ?_
 refine hl_two 0 3 (by decide) (by decide) (by kernel_rfl) rfl rfl ?_ ?_
 ·refine ZM M 3 (fun g1 => .slice (some ⟨g1, 0, none⟩) 4 4) (.cells (av 4 (w8 (fun _ => 0))) 5) fun g1 u2 M => ?_
  refine nT ?_
  refine ⟨(M.drop (.cons _ (.slnil))), ?_⟩
  refine hl_two 1 3 (by decide) (by decide) (by kernel_rfl) rfl rfl ?_ ?_
  ·refine pl_back M (want_no rfl) (some 4) rfl _ rfl 0 g1 4 4 (by kernel_rfl) _ rfl ((List.range 4).map fun _ => 0) 4 (sb_av 4 _ _) (by simp) (z_nn _) ?_
   refine nT ?_
   refine ⟨(M.drop (.cons _ (.slnil))), ?_⟩
   refine qO 3 ?_
   refine ZC M 6 (fun w M => c_word n w M.laid) fun u3 M => ?_
   refine nT ?_
   refine ⟨(M.drop (.cons _ (.slnil))), ?_⟩
   refine qH (M.drop (.cons _ (.slnil))) 4 7 (.string (nS n)) (fun w _ => (run_cat 9 9 _ _ rfl (zB 4) (wS n) (by kernel_rfl) (by kernel_rfl) (by rw [zB_size, wS_size]; decide)) w) ?_
   refine qZ ?_
   refine rV 1 <| nT <| au_then <| wp_ret ?_
   exact b1 M
  ·refine ZC M 6 (fun w M => c_word n w M.laid) fun u4 M => ?_
   refine nT ?_
   refine ⟨(M.drop (.cons _ (.slnil))), ?_⟩
   refine qO 1 ?_
   refine pl_back M (want_no rfl) (some 4) rfl _ rfl 0 g1 4 4 (by kernel_rfl) _ rfl ((List.range 4).map fun _ => 0) 4 (sb_av 4 _ _) (by simp) (z_nn _) ?_
   refine nT ?_
   refine ⟨(M.drop (.cons _ (.slnil))), ?_⟩
   refine qH (M.drop (.cons _ (.slnil))) 4 7 (.string (nS n)) (fun w _ => (run_cat 9 9 _ _ rfl (zB 4) (wS n) (by kernel_rfl) (by kernel_rfl) (by rw [zB_size, wS_size]; decide)) w) ?_
   refine qZ ?_
   refine rV 1 <| nT <| au_then <| wp_ret ?_
   exact b1 M
 ·refine ZC M 6 (fun w M => c_word n w M.laid) fun u5 M => ?_
  refine nT ?_
  refine ⟨M, ?_⟩
  refine qO 0 ?_
  refine ZM M 3 (fun g2 => .slice (some ⟨g2, 0, none⟩) 4 4) (.cells (av 4 (w8 (fun _ => 0))) 5) fun g2 u6 M => ?_
  refine nT ?_
  refine ⟨(M.drop (.cons _ (.slnil))), ?_⟩
  refine qO 1 ?_
  refine pl_back M (want_no rfl) (some 4) rfl _ rfl 0 g2 4 4 (by kernel_rfl) _ rfl ((List.range 4).map fun _ => 0) 4 (sb_av 4 _ _) (by simp) (z_nn _) ?_
  refine nT ?_
  refine ⟨(M.drop (.cons _ (.slnil))), ?_⟩
  refine qH (M.drop (.cons _ (.slnil))) 4 7 (.string (nS n)) (fun w _ => (run_cat 9 9 _ _ rfl (zB 4) (wS n) (by kernel_rfl) (by kernel_rfl) (by rw [zB_size, wS_size]; decide)) w) ?_
  refine qZ ?_
  refine rV 1 <| nT <| au_then <| wp_ret ?_
  exact b1 M
theorem sfA (key nonce ad s : Yb) (m : Nat) (_hm : m ≤ 16) (h : key.size ≠ 32) (w : World) (hL : Laid w)  : Cs 69 #[.string key, .string nonce, .string ad, .string s, .int .i64 (m : Int)] w (.int .i64 2) := by
 go_enter Tryz.func69, Tryz.ntmps69
 have M := Mem.start hL
 refine sq <| wp_seq ?_
 refine wp_block ?_
 refine wp_seq <| sR <| rV 2 ?_
 refine ZS 14 ((key.size : Int) = 32) ?_
 refine rV 1 <| nT <| cT <| wp_skip <| au_then ?_
 refine cT <| sq <| wp_ret ?_
 refine au_block_ret ?_
 refine au_then_ret ?_
 exact b1 M
theorem sfB (key nonce ad s : Yb) (m : Nat) (_hm : m ≤ 16) (h : key.size = 32) (h2 : nonce.size ≠ 12) (w : World) (hL : Laid w)  : Cs 69 #[.string key, .string nonce, .string ad, .string s, .int .i64 (m : Int)] w (.int .i64 2) := by
 go_enter Tryz.func69, Tryz.ntmps69
 have M := Mem.start hL
 refine sq <| wp_seq ?_
 refine wp_block ?_
 refine wp_seq <| sR <| rV 2 ?_
 refine ZD 14 ((key.size : Int) = 32) ?_
 refine rV 1 <| nT <| cF ?_
 refine rg_lit ?_
 refine rV 2 ?_
 refine ZS 17 ((nonce.size : Int) = 12) ?_
 refine rV 1 <| nT <| cT <| sq <| wp_ret ?_
 refine au_block_ret ?_
 refine au_then_ret ?_
 exact b1 M
theorem sfC (key nonce ad s : Yb) (m : Nat) (_hm : m ≤ 16) (hk : key.size = 32 ∧ nonce.size = 12) (h : 65536 < ad.size) (w : World) (hL : Laid w)  : Cs 69 #[.string key, .string nonce, .string ad, .string s, .int .i64 (m : Int)] w (.int .i64 4) := by
 go_enter Tryz.func69, Tryz.ntmps69
 have M := Mem.start hL
 refine sq <| wp_seq ?_
 refine wp_block ?_
 refine wp_seq <| sR <| rV 2 ?_
 refine ZD 14 ((key.size : Int) = 32) ?_
 refine rV 1 <| nT <| cF ?_
 refine rg_lit ?_
 refine rV 2 ?_
 refine ZD 17 ((nonce.size : Int) = 12) ?_
 refine rV 1 <| nT <| cF <| wp_seq <| sR ?_
 refine rV 2 ?_
 refine ZT 21 ((65536 : Int) < (ad.size : Int)) ?_
 refine rV 1 <| nT <| cT <| wp_skip <| au_then ?_
 refine cT <| sq <| wp_ret ?_
 refine au_block_ret ?_
 refine au_then_ret ?_
 exact b1 M
theorem sfD (key nonce ad s : Yb) (m : Nat) (_hm : m ≤ 16) (hk : key.size = 32 ∧ nonce.size = 12) (h : ¬ 65536 < ad.size) (h2 : 65536 + m < s.size) (w : World) (hL : Laid w)  : Cs 69 #[.string key, .string nonce, .string ad, .string s, .int .i64 (m : Int)] w (.int .i64 4) := by
 go_enter Tryz.func69, Tryz.ntmps69
 have M := Mem.start hL
 refine sq <| wp_seq ?_
 refine wp_block ?_
 refine wp_seq <| sR <| rV 2 ?_
 refine ZD 14 ((key.size : Int) = 32) ?_
 refine rV 1 <| nT <| cF ?_
 refine rg_lit ?_
 refine rV 2 ?_
 refine ZD 17 ((nonce.size : Int) = 12) ?_
 refine rV 1 <| nT <| cF <| wp_seq <| sR ?_
 refine rV 2 ?_
 refine ZF 21 ((65536 : Int) < (ad.size : Int)) ?_
 refine rV 1 <| nT <| cF ?_
 refine rg_lit ?_
 refine rV 3 ?_
 refine ZI 25 (65536 + (m : Int)) ((65536 + m : Nat) : Int) ?_
 refine ZT 26 (((65536 + m : Nat) : Int) < (s.size : Int)) ?_
 refine rV 1 <| nT <| cT <| sq <| wp_ret ?_
 refine au_block_ret ?_
 refine au_then_ret ?_
 exact b1 M
theorem sfE (key nonce ad s : Yb) (m : Nat) (_hm : m ≤ 16) (hk : key.size = 32 ∧ nonce.size = 12) (h : ¬ 65536 < ad.size) (h2 : s.size < m) (w : World) (hL : Laid w)  : Cs 69 #[.string key, .string nonce, .string ad, .string s, .int .i64 (m : Int)] w (.int .i64 100) := by
 go_enter Tryz.func69, Tryz.ntmps69
 have M := Mem.start hL
 refine sq <| wp_seq ?_
 refine wp_block ?_
 refine wp_seq <| sR <| rV 2 ?_
 refine ZD 14 ((key.size : Int) = 32) ?_
 refine rV 1 <| nT <| cF ?_
 refine rg_lit ?_
 refine rV 2 ?_
 refine ZD 17 ((nonce.size : Int) = 12) ?_
 refine rV 1 <| nT <| cF <| wp_seq <| sR ?_
 refine rV 2 ?_
 refine ZF 21 ((65536 : Int) < (ad.size : Int)) ?_
 refine rV 1 <| nT <| cF ?_
 refine rg_lit ?_
 refine rV 3 ?_
 refine ZI 25 (65536 + (m : Int)) ((65536 + m : Nat) : Int) ?_
 refine ZF 26 (((65536 + m : Nat) : Int) < (s.size : Int)) ?_
 refine rV 1 <| nT <| cF <| sR <| rV 3 ?_
 refine ZT 31 ((s.size : Int) < (m : Int)) ?_
 refine rV 1 <| nT <| cT <| sq <| wp_ret ?_
 refine au_block_ret ?_
 refine au_then_ret ?_
 exact b1 M
theorem sfF (key nonce ad s : Yb) (m : Nat) (_hm : m ≤ 16) (hk : key.size = 32 ∧ nonce.size = 12) (h : ¬ 65536 < ad.size) (h2 : ¬ 65536 + m < s.size) (h3 : ¬ s.size < m) (w : World) (hL : Laid w)  : Cs 69 #[.string key, .string nonce, .string ad, .string s, .int .i64 (m : Int)] w (.int .i64 0) := by
 go_enter Tryz.func69, Tryz.ntmps69
 have M := Mem.start hL
 refine sq <| wp_seq ?_
 refine wp_block ?_
 refine wp_seq <| sR <| rV 2 ?_
 refine ZD 14 ((key.size : Int) = 32) ?_
 refine rV 1 <| nT <| cF ?_
 refine rg_lit ?_
 refine rV 2 ?_
 refine ZD 17 ((nonce.size : Int) = 12) ?_
 refine rV 1 <| nT <| cF <| wp_seq <| sR ?_
 refine rV 2 ?_
 refine ZF 21 ((65536 : Int) < (ad.size : Int)) ?_
 refine rV 1 <| nT <| cF ?_
 refine rg_lit ?_
 refine rV 3 ?_
 refine ZI 25 (65536 + (m : Int)) ((65536 + m : Nat) : Int) ?_
 refine ZF 26 (((65536 + m : Nat) : Int) < (s.size : Int)) ?_
 refine rV 1 <| nT <| cF <| sR <| rV 3 ?_
 refine ZF 31 ((s.size : Int) < (m : Int)) ?_
 refine rV 1 <| nT <| cF <| wp_skip ?_
 refine au_block ?_
 refine au_then <| sq <| wp_ret ?_
 exact b1 M
def sf (key nonce ad s : Yb) (m : Nat) : Int := if key.size ≠ 32 ∨ nonce.size ≠ 12 then 2 else if 65536 < ad.size ∨ 65536 + m < s.size then 4 else if s.size < m then 100 else 0
theorem c_fault (key nonce ad s : Yb) (m : Nat) (hm : m ≤ 16) (w : World) (hL : Laid w) : Cs 69 #[.string key, .string nonce, .string ad, .string s, .int .i64 (m : Int)] w (.int .i64 (sf key nonce ad s m)) := by
 unfold sf
 by_cases h : key.size = 32
 ·by_cases h2 : nonce.size = 12
  ·rw [if_neg (by omega)]
   by_cases h3 : 65536 < ad.size
   ·rw [if_pos (.inl h3)]
    exact sfC key nonce ad s m hm ⟨h, h2⟩ h3 w hL
   ·by_cases h4 : 65536 + m < s.size
    ·rw [if_pos (.inr h4)]
     exact sfD key nonce ad s m hm ⟨h, h2⟩ h3 h4 w hL
    ·rw [if_neg (by omega)]
     by_cases h5 : s.size < m
     ·rw [if_pos h5]
      exact sfE key nonce ad s m hm ⟨h, h2⟩ h3 h5 w hL
     ·rw [if_neg h5]
      exact sfF key nonce ad s m hm ⟨h, h2⟩ h3 h4 h5 w hL
  ·rw [if_pos (.inr h2)]
   exact sfB key nonce ad s m hm h h2 w hL
 ·rw [if_pos (.inl h)]
  exact sfA key nonce ad s m hm h w hL
open Go.RowKit
def j1 (ad : Yb) : List UInt8 := ad.data.toList ++ List.replicate (pn ad.size) 0
def j1c (ad c : Yb) : List UInt8 := j1 ad ++ c.data.toList
def j2 (ad c : Yb) : List UInt8 := j1c ad c ++ List.replicate (pn (ad.size + pn ad.size + c.size)) 0
def m1 (ad : Yb) : List UInt8 := (wS (ad.size : Int)).data.toList
def m2 (ad c : Yb) : List UInt8 := m1 ad ++ (wS (c.size : Int)).data.toList
def mS (ad c : Yb) : ByteArray := ⟨(m2 ad c).toArray⟩
def jn (ad c : Yb) : ByteArray := ⟨(j2 ad c ++ m2 ad c).toArray⟩
theorem dl_len (s : Yb) : s.data.toList.length = s.size := rfl
theorem j1_len (ad : Yb) : (j1 ad).length = ad.size + pn ad.size := by
 unfold j1
 rw [List.length_append, dl_len, List.length_replicate]
theorem j1c_len (ad c : Yb) : (j1c ad c).length = ad.size + pn ad.size + c.size := by
 unfold j1c
 rw [List.length_append, dl_len, j1_len]
theorem j2_len (ad c : Yb) : (j2 ad c).length = ad.size + pn ad.size + c.size + pn (ad.size + pn ad.size + c.size) := by
 unfold j2
 rw [List.length_append, j1c_len, List.length_replicate]
theorem m1_len (ad : Yb) : (m1 ad).length = 8 := by
 unfold m1
 rw [dl_len, wS_size]
theorem m2_len (ad c : Yb) : (m2 ad c).length = 16 := by
 unfold m2
 rw [List.length_append, dl_len, wS_size, m1_len]
theorem rep_more (l : List UInt8) (j : Nat) : l ++ List.replicate j 0 ++ [UInt8.ofNat (0 : Int).toNat] = l ++ List.replicate (j + 1) 0 := by
 rw [List.append_assoc, List.replicate_succ']
 rfl
theorem rep_len (l : List UInt8) (n j : Nat) (h : l.length = n) : (l ++ List.replicate j 0).length = n + j := by
 rw [List.length_append, List.length_replicate, h]
theorem c_joined (ad c : Yb) (gt : Nat) (w : World) (hL : Laid w) (hz : ad.size + c.size ≤ 150000) (hg : gt < w.heap.size) (h0 : w.cell? ⟨gt, 0, none⟩ = some (.string ad)) (h1 : w.cell? ⟨gt, 1, none⟩ = some (.string c)) : Cs 105 #[.slice (some ⟨gt, 0, none⟩) 2 2] w (.string (jn ad c)) := by
 have hpa := pn_lt ad.size
 go_enter Tryz.func105, Tryz.ntmps105
 have M := Mem.start hL
 refine sq <| sR ?_
 refine pN M 3 (.cells (av 2 bF0) 182) ?_
 intro k1 u1 M
 refine pN M 4 (.cells (av 2 bF0) 182) ?_
 intro k2 u2 M
 refine pl_nil ?_
 have hS := SN.start2 M
 clear M
 have M := hS.mem hL
 refine au_then <| wp_seq <| sq ?_
 refine wp_block ?_
 refine wp_loop_rounds 3 ?_
 refine rounds_go ?_
 refine sq <| wp_seq <| cT <| wp_skip <| au_then ?_
 refine wp_seq ?_
 refine wp_block ?_
 refine sR ?_
 refine pH 11 (.pointer (some ⟨gt, 0, none⟩)) (run_ix0 48 9 Tryz.underlying48 inz9 _ _ rfl gt 2 2 (by kernel_rfl) .i64 0 (by kernel_rfl) (by decide)) ?_
 refine pE M 12 gt 0 (.string ad) (fun w M => M.oldc (hS.cell hg h0) (by simp)) ?_
 refine rV 1 <| nT <| sR <| rV 1 ?_
 refine pl_callr (want_no rfl) (some 14) rfl 140 #[.pointer (some ⟨k1, 0, none⟩), .string ad] (.tuple #[.int .i64 (ad.size : Int), .nilIface]) _ (fun _ => by kernel_rfl) ((hS.next M).wstr hL ad (by show 0 + ad.size ≤ _; omega)) ?_
 intro u3 hS9
 clear M hS
 have hS : SN w [⟨k1, ad.data.toList⟩, ⟨k2, []⟩] [] u3 := hS9
 have M := hS.mem hL
 refine nT <| wp_seq ?_
 refine wp_block ?_
 obtain ⟨N0, hN0⟩ : ∃ N, N = pn ad.size := ⟨_, rfl⟩
 have hP0 : N0 = (16 - ad.size % 16) % 16 := hN0
 refine au_loop (fun j a u => ∃ v1 : NV, a = (fm ([.slice (some ⟨gt, 0, none⟩) 2 2, v1 1, .string ⟨#[]⟩, .pointer (some ⟨k1, 0, none⟩), .pointer (some ⟨k2, 0, none⟩), v1 5, .string ad, .slice (some ⟨gt, 0, none⟩) 2 2, .int .i64 2, .int .i64 0] ++ vr v1 10 18)) ∧ SN w [⟨k1, ad.data.toList ++ List.replicate j 0⟩, ⟨k2, []⟩] [] u) N0 (exS (by rw [List.replicate_zero, List.append_nil]; exact hS.next M)) ?_ ?_
 ·intro j a u0 hj hI
  clear M hS
  obtain ⟨v1, rfl, hS⟩ := hI
  have M := hS.mem hL
  refine wp_seq <| sR ?_
  refine pl_callr (want_no rfl) (some 15) rfl 141 #[.pointer (some ⟨k1, 0, none⟩)] (.int .i64 ((ad.size + j : Nat) : Int)) _ (fun _ => by kernel_rfl) (by have h9 := (hS.next M).len hL; rw [rep_len _ _ _ (dl_len ad)] at h9; exact h9) ?_
  intro u4 hS9
  clear M hS
  have hS : SN w [⟨k1, ad.data.toList ++ List.replicate j 0⟩, ⟨k2, []⟩] [] u4 := hS9
  have M := hS.mem hL
  refine ZQ 16 .i64 (Int.tmod ((ad.size + j : Nat) : Int) 16) (rem16 (ad.size + j)) ?_
  refine ZS 17 ((((ad.size + j) % 16 : Nat) : Int) = 0) ?_
  refine nT <| cT <| wp_skip <| au_then ?_
  refine wp_block ?_
  refine rg_lit ?_
  refine pl_callr (want_no rfl) (some 18) rfl 128 #[.pointer (some ⟨k1, 0, none⟩), .int .u8 0] .nilIface _ (fun _ => by kernel_rfl) ((hS.next M).wbyte hL 0 (by decide) (by decide) (by rw [rep_len _ _ _ (dl_len ad)]; omega)) ?_
  intro u5 hS9
  clear M hS
  have hS : SN w [⟨k1, ad.data.toList ++ List.replicate (j + 1) 0⟩, ⟨k2, []⟩] [] u5 := (by rw [← rep_more]; exact hS9)
  have M := hS.mem hL
  refine pl_nil ?_
  refine au_block ?_
  refine au_then ?_
  exact exS hS
 ·intro a u0 hI
  clear M hS
  obtain ⟨v1, rfl, hS⟩ := hI
  have M := hS.mem hL
  refine wp_seq <| sR ?_
  refine pl_callr (want_no rfl) (some 15) rfl 141 #[.pointer (some ⟨k1, 0, none⟩)] (.int .i64 ((ad.size + N0 : Nat) : Int)) _ (fun _ => by kernel_rfl) (by have h9 := (hS.next M).len hL; rw [rep_len _ _ _ (dl_len ad)] at h9; exact h9) ?_
  intro u6 hS9
  clear M hS
  have hS : SN w [⟨k1, ad.data.toList ++ List.replicate N0 0⟩, ⟨k2, []⟩] [] u6 := hS9
  have M := hS.mem hL
  refine ZQ 16 .i64 (Int.tmod ((ad.size + N0 : Nat) : Int) 16) (rem16 (ad.size + N0)) ?_
  refine ZD 17 ((((ad.size + N0) % 16 : Nat) : Int) = 0) ?_
  refine nT <| cF ?_
  refine wp_exit ?_
  refine au_then_exit ?_
  refine au_then_exit ?_
  refine au_block_exit ?_
  refine au_then ?_
  replace hS : SN w [⟨k1, (j1 ad)⟩, ⟨k2, []⟩] [] u6 := (by have h9 := hS.next M; rw [hN0] at h9; exact h9)
  clear M
  have M := hS.mem hL
  refine rg_lit ?_
  refine rV 2 ?_
  refine ZQ 21 .u64 (cv .u64 (ad.size : Int)) (cvu64 _ (by omega)) ?_
  refine pC M 22 72 #[.int .u64 (ad.size : Int)] (.string (wS (ad.size : Int))) (fun w M => c_word _ w M.laid) fun u7 M => ?_
  refine pl_callr (want_no rfl) (some 23) rfl 140 #[.pointer (some ⟨k2, 0, none⟩), .string (wS (ad.size : Int))] (.tuple #[.int .i64 ((wS (ad.size : Int)).size : Int), .nilIface]) _ (fun _ => by kernel_rfl) (((hS.next M).perm (.swap _ _ _)).wstr hL (wS (ad.size : Int)) (by rw [wS_size]; show 0 + 8 ≤ _; omega)) ?_
  intro u8 hS9
  clear M hS
  have hS : SN w [⟨k1, (j1 ad)⟩, ⟨k2, (m1 ad)⟩] [] u8 := hS9.perm (.swap _ _ _)
  have M := hS.mem hL
  refine pl_nil ?_
  refine au_block ?_
  refine au_then ?_
  refine rg_lit ?_
  refine rV 2 <| nT ?_
  refine rounds_go ?_
  refine sq <| wp_seq <| cT <| wp_skip <| au_then ?_
  refine wp_seq ?_
  refine wp_block ?_
  refine sR ?_
  refine pH 11 (.pointer (some ⟨gt, 1, none⟩)) (run_ix0 48 9 Tryz.underlying48 inz9 _ _ rfl gt 2 2 (by kernel_rfl) .i64 1 (by kernel_rfl) (by decide)) ?_
  refine pE M 12 gt 1 (.string c) (fun w M => M.oldc (hS.cell hg h1) (by simp)) ?_
  refine rV 1 <| nT <| sR <| rV 1 ?_
  refine pl_callr (want_no rfl) (some 14) rfl 140 #[.pointer (some ⟨k1, 0, none⟩), .string c] (.tuple #[.int .i64 (c.size : Int), .nilIface]) _ (fun _ => by kernel_rfl) ((hS.next M).wstr hL c (by rw [j1_len]; omega)) ?_
  intro u9 hS9
  clear M hS
  have hS : SN w [⟨k1, (j1c ad c)⟩, ⟨k2, (m1 ad)⟩] [] u9 := hS9
  have M := hS.mem hL
  refine nT <| wp_seq ?_
  refine wp_block ?_
  obtain ⟨N1, hN1⟩ : ∃ N, N = pn (ad.size + pn ad.size + c.size) := ⟨_, rfl⟩
  have hP1 : N1 = (16 - (ad.size + pn ad.size + c.size) % 16) % 16 := hN1
  refine au_loop (fun j a u => ∃ v2 : NV, a = (fm ([.slice (some ⟨gt, 0, none⟩) 2 2, v2 1, .string ⟨#[]⟩, .pointer (some ⟨k1, 0, none⟩), .pointer (some ⟨k2, 0, none⟩), v2 5, .string c, .slice (some ⟨gt, 0, none⟩) 2 2, .int .i64 2, .int .i64 1] ++ vr v2 10 18)) ∧ SN w [⟨k1, (j1c ad c) ++ List.replicate j 0⟩, ⟨k2, (m1 ad)⟩] [] u) N1 (exS (by rw [List.replicate_zero, List.append_nil]; exact hS.next M)) ?_ ?_
  ·intro j a u0 hj hI
   clear M hS
   obtain ⟨v2, rfl, hS⟩ := hI
   have M := hS.mem hL
   refine wp_seq <| sR ?_
   refine pl_callr (want_no rfl) (some 15) rfl 141 #[.pointer (some ⟨k1, 0, none⟩)] (.int .i64 (((ad.size + pn ad.size + c.size) + j : Nat) : Int)) _ (fun _ => by kernel_rfl) (by have h9 := (hS.next M).len hL; rw [rep_len _ _ _ (j1c_len ad c)] at h9; exact h9) ?_
   intro u10 hS9
   clear M hS
   have hS : SN w [⟨k1, (j1c ad c) ++ List.replicate j 0⟩, ⟨k2, (m1 ad)⟩] [] u10 := hS9
   have M := hS.mem hL
   refine ZQ 16 .i64 (Int.tmod (((ad.size + pn ad.size + c.size) + j : Nat) : Int) 16) (rem16 ((ad.size + pn ad.size + c.size) + j)) ?_
   refine ZS 17 (((((ad.size + pn ad.size + c.size) + j) % 16 : Nat) : Int) = 0) ?_
   refine nT <| cT <| wp_skip <| au_then ?_
   refine wp_block ?_
   refine rg_lit ?_
   refine pl_callr (want_no rfl) (some 18) rfl 128 #[.pointer (some ⟨k1, 0, none⟩), .int .u8 0] .nilIface _ (fun _ => by kernel_rfl) ((hS.next M).wbyte hL 0 (by decide) (by decide) (by rw [rep_len _ _ _ (j1c_len ad c)]; omega)) ?_
   intro u11 hS9
   clear M hS
   have hS : SN w [⟨k1, (j1c ad c) ++ List.replicate (j + 1) 0⟩, ⟨k2, (m1 ad)⟩] [] u11 := (by rw [← rep_more]; exact hS9)
   have M := hS.mem hL
   refine pl_nil ?_
   refine au_block ?_
   refine au_then ?_
   exact exS hS
  ·intro a u0 hI
   clear M hS
   obtain ⟨v2, rfl, hS⟩ := hI
   have M := hS.mem hL
   refine wp_seq <| sR ?_
   refine pl_callr (want_no rfl) (some 15) rfl 141 #[.pointer (some ⟨k1, 0, none⟩)] (.int .i64 (((ad.size + pn ad.size + c.size) + N1 : Nat) : Int)) _ (fun _ => by kernel_rfl) (by have h9 := (hS.next M).len hL; rw [rep_len _ _ _ (j1c_len ad c)] at h9; exact h9) ?_
   intro u12 hS9
   clear M hS
   have hS : SN w [⟨k1, (j1c ad c) ++ List.replicate N1 0⟩, ⟨k2, (m1 ad)⟩] [] u12 := hS9
   have M := hS.mem hL
   refine ZQ 16 .i64 (Int.tmod (((ad.size + pn ad.size + c.size) + N1 : Nat) : Int) 16) (rem16 ((ad.size + pn ad.size + c.size) + N1)) ?_
   refine ZD 17 (((((ad.size + pn ad.size + c.size) + N1) % 16 : Nat) : Int) = 0) ?_
   refine nT <| cF ?_
   refine wp_exit ?_
   refine au_then_exit ?_
   refine au_then_exit ?_
   refine au_block_exit ?_
   refine au_then ?_
   replace hS : SN w [⟨k1, (j2 ad c)⟩, ⟨k2, (m1 ad)⟩] [] u12 := (by have h9 := hS.next M; rw [hN1] at h9; exact h9)
   clear M
   have M := hS.mem hL
   refine rg_lit ?_
   refine rV 2 ?_
   refine ZQ 21 .u64 (cv .u64 (c.size : Int)) (cvu64 _ (by omega)) ?_
   refine pC M 22 72 #[.int .u64 (c.size : Int)] (.string (wS (c.size : Int))) (fun w M => c_word _ w M.laid) fun u13 M => ?_
   refine pl_callr (want_no rfl) (some 23) rfl 140 #[.pointer (some ⟨k2, 0, none⟩), .string (wS (c.size : Int))] (.tuple #[.int .i64 ((wS (c.size : Int)).size : Int), .nilIface]) _ (fun _ => by kernel_rfl) (((hS.next M).perm (.swap _ _ _)).wstr hL (wS (c.size : Int)) (by rw [m1_len, wS_size]; decide)) ?_
   intro u14 hS9
   clear M hS
   have hS : SN w [⟨k1, (j2 ad c)⟩, ⟨k2, (m2 ad c)⟩] [] u14 := hS9.perm (.swap _ _ _)
   have M := hS.mem hL
   refine pl_nil ?_
   refine au_block ?_
   refine au_then ?_
   refine rg_lit ?_
   refine rV 2 <| nT ?_
   refine rounds_go ?_
   refine sq <| wp_seq <| cF ?_
   refine wp_exit ?_
   refine au_then_exit ?_
   refine au_then_exit ?_
   refine au_block_exit ?_
   refine au_then <| sR ?_
   refine pl_callr (want_no rfl) (some 25) rfl 129 #[.pointer (some ⟨k2, 0, none⟩)] (.string (mS ad c)) _ (fun _ => by kernel_rfl) (((hS.next M).perm (.swap _ _ _)).str hL (fun e => by have := m2_len ad c; rw [e] at this; cases this)) ?_
   intro u15 hS9
   clear M hS
   have hS : SN w [⟨k1, (j2 ad c)⟩, ⟨k2, (m2 ad c)⟩] [] u15 := hS9.perm (.swap _ _ _)
   have M := hS.mem hL
   refine pl_callr (want_no rfl) (some 26) rfl 140 #[.pointer (some ⟨k1, 0, none⟩), .string (mS ad c)] (.tuple #[.int .i64 ((mS ad c).size : Int), .nilIface]) _ (fun _ => by kernel_rfl) ((hS.next M).wstr hL (mS ad c) (by rw [j2_len]; show _ + (m2 ad c).length ≤ _; rw [m2_len]; have := pn_lt (ad.size + pn ad.size + c.size); omega)) ?_
   intro u16 hS9
   clear M hS
   have hS : SN w [⟨k1, (j2 ad c ++ m2 ad c)⟩, ⟨k2, (m2 ad c)⟩] [] u16 := hS9
   have M := hS.mem hL
   refine nT <| sR ?_
   refine pl_callr (want_no rfl) (some 27) rfl 129 #[.pointer (some ⟨k1, 0, none⟩)] (.string (jn ad c)) _ (fun _ => by kernel_rfl) ((hS.next M).str hL (fun e => by have := j2_len ad c; have h3 := congrArg List.length e; rw [List.length_append, m2_len] at h3; simp at h3)) ?_
   intro u17 hS9
   clear M hS
   have hS : SN w [⟨k1, (j2 ad c ++ m2 ad c)⟩, ⟨k2, (m2 ad c)⟩] [] u17 := hS9
   have M := hS.mem hL
   refine rV 1 <| nT <| wp_ret ?_
   exact bX (.string (jn ad c)) ⟨rfl, (hS.next M).bel⟩
open Go.RowKit
def tx2 (ad c : Yb) : Nat → Value := fun i => if i = 0 then .string ad else .string c
def otk (key nonce : Yb) : ByteArray := (blk (fw key nonce 0)).extract 0 32
theorem otk_size (key nonce : Yb) : (otk key nonce).size = 32 := by
 unfold otk
 rw [ByteArray.size_extract, blk_size]
 rfl
theorem jn_size (ad c : Yb) : (jn ad c).size ≤ ad.size + c.size + 48 := by
 have h : (jn ad c).size = (j2 ad c ++ m2 ad c).length := rfl
 rw [h, List.length_append, j2_len, m2_len]
 have := pn_lt ad.size
 have := pn_lt (ad.size + pn ad.size + c.size)
 omega
def tgO (key nonce ad c : Yb) : ByteArray := Pol.tagS (otk key nonce) (jn ad c)
theorem tgO_size (key nonce ad c : Yb) : (tgO key nonce ad c).size = 16 := Pol.tagS_size _ _
def tn (key nonce s : Yb) : ByteArray := oS (fw key nonce 1) s
theorem tn_size (key nonce s : Yb) : (tn key nonce s).size = s.size := oS_size _ _
def sealS (key nonce ad s : Yb) : ByteArray := tn key nonce s ++ tgO key nonce ad (tn key nonce s)
theorem sealS_size (key nonce ad s : Yb) : (sealS key nonce ad s).size = s.size + 16 := by
 unfold sealS
 rw [ByteArray.size_append, tn_size, tgO_size]
theorem sf_zero {key nonce ad s : Yb} {m : Nat} (h : sf key nonce ad s m = 0) : (key.size = 32 ∧ nonce.size = 12) ∧ ad.size ≤ 65536 ∧ s.size ≤ 65536 + m ∧ m ≤ s.size := by
 unfold sf at h
 split at h
 ·cases h
 ·split at h
  ·cases h
  ·split at h
   ·cases h
   ·omega
theorem sf_ok {key nonce ad s : Yb} {m : Nat} (hk : key.size = 32 ∧ nonce.size = 12) (ha : ad.size ≤ 65536) (hs : s.size ≤ 65536 + m) (hm : m ≤ s.size) : sf key nonce ad s m = 0 := by
 unfold sf
 rw [if_neg (by omega), if_neg (by omega), if_neg (by omega)]
theorem c_Turn1 (key nonce s : Yb) (hm : key.size = 32 ∧ nonce.size = 12) (hz : s.size ≤ 65536) (w : World) (hL : Laid w) : Cs 70 #[.string key, .string nonce, .int .u32 1, .string s] w (.tuple #[.string (tn key nonce s), .int .i64 0]) := c_TurnA key nonce 1 (by decide) s (by omega) hm (by omega) w hL
theorem c_tagOf (key nonce ad c : Yb) (hm : key.size = 32 ∧ nonce.size = 12) (hz : ad.size + c.size ≤ 150000) (w : World) (hL : Laid w)  : Cs 71 #[.string key, .string nonce, .string ad, .string c] w (.string (tgO key nonce ad c)) := by
 go_enter Tryz.func71, Tryz.ntmps71
 have M := Mem.start hL
 refine sq <| sR <| rV 2 ?_
 refine ZC M 16 (fun w M => c_BlockA key nonce 0 hm w M.laid) fun u1 M => ?_
 refine rV 5 <| nT <| wp_seq ?_
 refine rgh M [] 11 fun u2 M => ?_
 refine qV M 0 20 (.string (blk (fw key nonce 0))) ?_
 refine qH M 1 21 (.string (otk key nonce)) (fun w _ => (run_strh 9 Tryz.underlying9 _ _ rfl (blk (fw key nonce 0)) (by kernel_rfl) .i64 32 (by kernel_rfl) (by rw [blk_size]; decide) _ rfl) w) ?_
 refine qV M 2 22 (.string ad) ?_
 refine qV M 3 23 (.string c) ?_
 refine qO 4 ?_
 refine ZM M 24 (fun g1 => .slice (some ⟨g1, 0, none⟩) 2 2) (.cells (av 2 (tx2 ad c)) 9) fun g1 u3 M => ?_
 refine nT ?_
 refine ⟨(M.drop (.cons _ (.slnil))), ?_⟩
 refine qO 5 ?_
 refine ZC M 25 (fun w M => c_joined ad c g1 w M.laid hz (Array.getElem?_eq_some_iff.1 (M.get 0 rfl)).1 (cell_av (M.get 0 rfl) (by decide)) (cell_av (M.get 0 rfl) (by decide))) fun u4 M => ?_
 refine nT ?_
 refine ⟨(M.drop (.cons _ (.slnil))), ?_⟩
 refine qO 6 ?_
 refine pC M 26 104 #[.string (otk key nonce), .string (jn ad c)] (.tuple #[.string (tgO key nonce ad c), .int .i64 0]) (fun w M => Pol.c_Tag _ _ (otk_size key nonce) (by have := jn_size ad c; omega) w M.laid) fun u5 M => ?_
 refine nT ?_
 refine ⟨(M.drop (.cons _ (.slnil))), ?_⟩
 have qM := M.drop (.cons _ (.slnil))
 refine qV qM 7 19 (.tuple #[.string (tgO key nonce ad c), .int .i64 0]) ?_
 refine qV qM 8 27 (.string (tgO key nonce ad c)) ?_
 refine qV qM 9 28 (.int .i64 0) ?_
 refine qV qM 10 11 (.string (tgO key nonce ad c)) ?_
 refine qZ ?_
 refine rV 1 <| nT <| au_then <| sq <| wp_ret ?_
 exact b1 M
theorem c_SealA (key nonce ad s : Yb) (h : sf key nonce ad s 0 = 0) (w : World) (hL : Laid w)  : Cs 46 #[.string key, .string nonce, .string ad, .string s] w (.tuple #[.string (sealS key nonce ad s), .int .i64 0]) := by
 go_enter Tryz.func46, Tryz.ntmps46
 have M := Mem.start hL
 refine sq <| wp_seq <| sR <| rV 4 ?_
 refine ZC M 17 (fun w M => c_fault key nonce ad s 0 (by decide) w M.laid) fun u1 M => ?_
 refine rV 1 <| nT <| sR <| rV 1 ?_
 refine wD 19 h ?_
 refine nT <| cF <| wp_skip <| au_then <| sR ?_
 refine rV 3 ?_
 refine ZC M 25 (fun w M => c_Turn1 key nonce s (sf_zero h).1 (by have := sf_zero h; omega) w M.laid) fun u2 M => ?_
 refine rV 5 <| nT <| sR <| rV 5 ?_
 refine ZC M 33 (fun w M => c_tagOf key nonce ad (tn key nonce s) (sf_zero h).1 (by have := sf_zero h; rw [tn_size]; omega) w M.laid) fun u3 M => ?_
 refine pH 34 (.string (sealS key nonce ad s)) (run_cat 9 9 _ _ rfl (tn key nonce s) (tgO key nonce ad (tn key nonce s)) (by kernel_rfl) (by kernel_rfl) (by rw [tn_size, tgO_size]; have := sf_zero h; omega)) ?_
 refine rV 2 <| nT <| wp_ret ?_
 exact b1 M
theorem c_SealB (key nonce ad s : Yb) (h : sf key nonce ad s 0 ≠ 0) (w : World) (hL : Laid w)  : Cs 46 #[.string key, .string nonce, .string ad, .string s] w (.tuple #[.string ⟨#[]⟩, .int .i64 (sf key nonce ad s 0)]) := by
 go_enter Tryz.func46, Tryz.ntmps46
 have M := Mem.start hL
 refine sq <| wp_seq <| sR <| rV 4 ?_
 refine ZC M 17 (fun w M => c_fault key nonce ad s 0 (by decide) w M.laid) fun u1 M => ?_
 refine rV 1 <| nT <| sR <| rV 1 ?_
 refine wU 19 h ?_
 refine nT <| cT <| sq <| wp_ret <| au_then_ret ?_
 exact b1 M
theorem cx_size (s : Yb) : (s.extract 0 (s.size - 16)).size = s.size - 16 := by
 rw [ByteArray.size_extract]
 omega
def tgX (key nonce ad s : Yb) : ByteArray := tgO key nonce ad (s.extract 0 (s.size - 16))
def opS (key nonce s : Yb) : ByteArray := tn key nonce (s.extract 0 (s.size - 16))
theorem c_OpenA (key nonce ad s : Yb) (h : sf key nonce ad s 16 = 0) (e : tgX key nonce ad s = s.extract (s.size - 16) s.size) (w : World) (hL : Laid w)  : Cs 49 #[.string key, .string nonce, .string ad, .string s] w (.tuple #[.string (opS key nonce s), .int .i64 0]) := by
 go_enter Tryz.func49, Tryz.ntmps49
 have M := Mem.start hL
 have hs16 : 16 ≤ s.size := (sf_zero h).2.2.2
 have hs17 : s.size ≤ 65536 + 16 := (sf_zero h).2.2.1
 refine sq <| wp_seq <| sR <| rV 4 ?_
 refine ZC M 17 (fun w M => c_fault key nonce ad s 16 (by decide) w M.laid) fun u1 M => ?_
 refine rV 1 <| nT <| sR <| rV 1 ?_
 refine wD 19 h ?_
 refine nT <| cF <| wp_skip <| au_then <| wp_seq ?_
 refine rgh M [] 11 fun u2 M => ?_
 refine qV M 0 21 (.string s) ?_
 refine qV M 1 22 (.string s) ?_
 refine qV M 2 23 (.int .i64 (s.size : Int)) ?_
 refine qH M 3 24 (.int .i64 ((s.size - 16 : Nat) : Int)) (fun w _ => (fun w => Eq.trans (b := .ok (.value (.int .i64 (IntKind.wrap .i64 ((s.size : Int) - 16)))) w) (by kernel_rfl) (by rw [wrap64 (by omega) (by omega)]; congr 3 <;> omega)) w) ?_
 refine qH M 4 25 (.string (s.extract 0 (s.size - 16))) (fun w _ => (run_strh 9 Tryz.underlying9 _ _ rfl s (by kernel_rfl) .i64 (s.size - 16) (by kernel_rfl) (by omega) _ rfl) w) ?_
 refine qV M 5 26 (.string s) ?_
 refine qV M 6 27 (.string s) ?_
 refine qV M 7 28 (.int .i64 (s.size : Int)) ?_
 refine qH M 8 29 (.int .i64 ((s.size - 16 : Nat) : Int)) (fun w _ => (fun w => Eq.trans (b := .ok (.value (.int .i64 (IntKind.wrap .i64 ((s.size : Int) - 16)))) w) (by kernel_rfl) (by rw [wrap64 (by omega) (by omega)]; congr 3 <;> omega)) w) ?_
 refine qH M 9 30 (.string (s.extract (s.size - 16) s.size)) (fun w _ => (run_strl 9 Tryz.underlying9 _ _ rfl s (by kernel_rfl) .i64 (s.size - 16) (by kernel_rfl) (by omega) _ rfl) w) ?_
 refine qV M 10 11 (.string (s.extract 0 (s.size - 16))) ?_
 refine qZ ?_
 refine rV 1 <| nT <| au_then <| wp_seq <| sR ?_
 refine rV 4 ?_
 refine ZC M 35 (fun w M => c_tagOf key nonce ad (s.extract 0 (s.size - 16)) (sf_zero h).1 (by have := sf_zero h; rw [cx_size]; omega) w M.laid) fun u3 M => ?_
 refine rV 1 ?_
 refine pC M 37 76 #[.string (tgX key nonce ad s), .string (s.extract (s.size - 16) s.size)] (.bool true) (fun w M => (by rw [← decide_eq_true e]; exact Pol.c_same _ _ (by show (tgO key nonce ad (s.extract 0 (s.size - 16))).size ≤ _; rw [tgO_size]; decide) w M.laid)) fun u4 M => ?_
 refine rV 1 <| nT <| cF <| wp_skip <| au_then ?_
 refine sR <| rV 3 ?_
 refine ZC M 42 (fun w M => c_Turn1 key nonce (s.extract 0 (s.size - 16)) (sf_zero h).1 (by have := sf_zero h; rw [cx_size]; omega) w M.laid) fun u5 M => ?_
 refine rV 4 <| nT <| wp_ret ?_
 exact b1 M
theorem c_OpenB (key nonce ad s : Yb) (h : sf key nonce ad s 16 = 0) (e : tgX key nonce ad s ≠ s.extract (s.size - 16) s.size) (w : World) (hL : Laid w)  : Cs 49 #[.string key, .string nonce, .string ad, .string s] w (.tuple #[.string ⟨#[]⟩, .int .i64 100]) := by
 go_enter Tryz.func49, Tryz.ntmps49
 have M := Mem.start hL
 have hs16 : 16 ≤ s.size := (sf_zero h).2.2.2
 have hs17 : s.size ≤ 65536 + 16 := (sf_zero h).2.2.1
 refine sq <| wp_seq <| sR <| rV 4 ?_
 refine ZC M 17 (fun w M => c_fault key nonce ad s 16 (by decide) w M.laid) fun u1 M => ?_
 refine rV 1 <| nT <| sR <| rV 1 ?_
 refine wD 19 h ?_
 refine nT <| cF <| wp_skip <| au_then <| wp_seq ?_
 refine rgh M [] 11 fun u2 M => ?_
 refine qV M 0 21 (.string s) ?_
 refine qV M 1 22 (.string s) ?_
 refine qV M 2 23 (.int .i64 (s.size : Int)) ?_
 refine qH M 3 24 (.int .i64 ((s.size - 16 : Nat) : Int)) (fun w _ => (fun w => Eq.trans (b := .ok (.value (.int .i64 (IntKind.wrap .i64 ((s.size : Int) - 16)))) w) (by kernel_rfl) (by rw [wrap64 (by omega) (by omega)]; congr 3 <;> omega)) w) ?_
 refine qH M 4 25 (.string (s.extract 0 (s.size - 16))) (fun w _ => (run_strh 9 Tryz.underlying9 _ _ rfl s (by kernel_rfl) .i64 (s.size - 16) (by kernel_rfl) (by omega) _ rfl) w) ?_
 refine qV M 5 26 (.string s) ?_
 refine qV M 6 27 (.string s) ?_
 refine qV M 7 28 (.int .i64 (s.size : Int)) ?_
 refine qH M 8 29 (.int .i64 ((s.size - 16 : Nat) : Int)) (fun w _ => (fun w => Eq.trans (b := .ok (.value (.int .i64 (IntKind.wrap .i64 ((s.size : Int) - 16)))) w) (by kernel_rfl) (by rw [wrap64 (by omega) (by omega)]; congr 3 <;> omega)) w) ?_
 refine qH M 9 30 (.string (s.extract (s.size - 16) s.size)) (fun w _ => (run_strl 9 Tryz.underlying9 _ _ rfl s (by kernel_rfl) .i64 (s.size - 16) (by kernel_rfl) (by omega) _ rfl) w) ?_
 refine qV M 10 11 (.string (s.extract 0 (s.size - 16))) ?_
 refine qZ ?_
 refine rV 1 <| nT <| au_then <| wp_seq <| sR ?_
 refine rV 4 ?_
 refine ZC M 35 (fun w M => c_tagOf key nonce ad (s.extract 0 (s.size - 16)) (sf_zero h).1 (by have := sf_zero h; rw [cx_size]; omega) w M.laid) fun u3 M => ?_
 refine rV 1 ?_
 refine pC M 37 76 #[.string (tgX key nonce ad s), .string (s.extract (s.size - 16) s.size)] (.bool false) (fun w M => (by rw [← decide_eq_false e]; exact Pol.c_same _ _ (by show (tgO key nonce ad (s.extract 0 (s.size - 16))).size ≤ _; rw [tgO_size]; decide) w M.laid)) fun u4 M => ?_
 refine rV 1 <| nT <| cT <| sq <| wp_ret ?_
 refine au_then_ret ?_
 exact b1 M
theorem c_OpenC (key nonce ad s : Yb) (h : sf key nonce ad s 16 ≠ 0)  (w : World) (hL : Laid w)  : Cs 49 #[.string key, .string nonce, .string ad, .string s] w (.tuple #[.string ⟨#[]⟩, .int .i64 (sf key nonce ad s 16)]) := by
 go_enter Tryz.func49, Tryz.ntmps49
 have M := Mem.start hL
 refine sq <| wp_seq <| sR <| rV 4 ?_
 refine ZC M 17 (fun w M => c_fault key nonce ad s 16 (by decide) w M.laid) fun u1 M => ?_
 refine rV 1 <| nT <| sR <| rV 1 ?_
 refine wU 19 h ?_
 refine nT <| cT <| sq <| wp_ret <| au_then_ret ?_
 exact b1 M
open Go.RowKit
theorem xb_xb (x k : Int) (h0 : 0 ≤ x) (h1 : x < 256) : xb (xb x k) k = x := by
 obtain ⟨a, rfl⟩ : ∃ a : Nat, x = (a : Int) := ⟨x.toNat, by omega⟩
 have hw : ∀ b : BitVec 8, IntKind.wrap .u8 (b.toNat : Int) = (b.toNat : Int) := fun b => by
  have := b.isLt
  simp [IntKind.wrap, IntKind.signed, IntKind.bits]
  omega
 have ho : ∀ b : BitVec 8, BitVec.ofInt 8 (b.toNat : Int) = b := fun b => by
  apply BitVec.eq_of_toNat_eq
  rw [BitVec.toNat_ofInt]
  have := b.isLt
  omega
 unfold xb
 rw [hw, hw, ho, BitVec.xor_assoc, BitVec.xor_self, BitVec.xor_zero, BitVec.toNat_ofInt]
 omega
theorem bt_oS (f : NI) (s : Yb) (i : Nat) (h : i < s.size) : bt (oS f s) i = ob f s i := by
 rw [oS_bs, bt_bs _ (fun x hx => by obtain ⟨j, _, rfl⟩ := List.mem_map.1 hx; exact ob_nn f s j), List.getD_eq_getElem?_getD, List.getElem?_map, List.getElem?_range h]
 rfl
theorem sb_map (s : Yb) : sb s = (List.range s.size).map (bt s) := by
 rw [dl_zero s (bt s)]
 exact List.map_congr_left fun i _ => if_neg (by omega)
theorem oS_oS (f : NI) (s : Yb) : oS f (oS f s) = s := by
 rw [oS_bs, oS_size]
 have e : (List.range s.size).map (ob f (oS f s)) = (List.range s.size).map (bt s) := List.map_congr_left fun i hi => by
  have hb := bt_nn s i
  show xb (bt (oS f s) i) (bl (sw f (i / 64)) (i % 64)) = _
  rw [bt_oS f s i (List.mem_range.1 hi)]
  exact xb_xb _ _ hb.1 hb.2
 rw [e, ← sb_map, bs_sb]
theorem ext_left (a b : Yb) : (a ++ b).extract 0 a.size = a := by
 apply ByteArray.ext
 rw [ByteArray.data_extract, ByteArray.data_append]
 show (a.data ++ b.data).extract 0 a.data.size = a.data
 rw [Array.extract_append]
 simp
theorem ext_right (a b : Yb) : (a ++ b).extract a.size (a ++ b).size = b := by
 apply ByteArray.ext
 rw [ByteArray.data_extract, ByteArray.data_append, ByteArray.size_append]
 show (a.data ++ b.data).extract a.data.size (a.data.size + b.data.size) = b.data
 rw [Array.extract_append, Array.extract_empty_of_size_le_start (Nat.le_refl _), Array.empty_append, Nat.sub_self, Nat.add_sub_cancel_left]
 exact Array.extract_size
theorem seal_cx (key nonce ad s : Yb) : (sealS key nonce ad s).extract 0 ((sealS key nonce ad s).size - 16) = tn key nonce s := by
 have h : (sealS key nonce ad s).size - 16 = (tn key nonce s).size := by
  rw [sealS_size, tn_size]
  omega
 rw [h]
 exact ext_left _ _
theorem seal_tx (key nonce ad s : Yb) : (sealS key nonce ad s).extract ((sealS key nonce ad s).size - 16) (sealS key nonce ad s).size = tgO key nonce ad (tn key nonce s) := by
 have h : (sealS key nonce ad s).size - 16 = (tn key nonce s).size := by
  rw [sealS_size, tn_size]
  omega
 rw [h]
 exact ext_right _ _
theorem seal_tg (key nonce ad s : Yb) : tgX key nonce ad (sealS key nonce ad s) = (sealS key nonce ad s).extract ((sealS key nonce ad s).size - 16) (sealS key nonce ad s).size := by
 unfold tgX
 rw [seal_cx, seal_tx]
theorem seal_op (key nonce ad s : Yb) : opS key nonce (sealS key nonce ad s) = s := by
 unfold opS
 rw [seal_cx]
 exact oS_oS _ _
theorem seal_ok {key nonce ad s : Yb} (h : sf key nonce ad s 0 = 0) : sf key nonce ad (sealS key nonce ad s) 16 = 0 := by
 obtain ⟨h1, h2, h3, h4⟩ := sf_zero h
 exact sf_ok h1 h2 (by rw [sealS_size]; omega) (by rw [sealS_size]; omega)
end Go.Proofs.YtiahdbibeleakaaGreatDoor
namespace Go.Proofs.YtiahdbibeleakaaGreatDoor.Bla
open Go.RowKit
theorem inz84 : (Tryz.prog.info? 84).map (·.size) = some 1 := by kernel_rfl
theorem inz5 : (Tryz.prog.info? 5).map (·.size) = some 1 := by kernel_rfl
theorem inz203 : (Tryz.prog.info? 203).map (·.size) = some 8 := by kernel_rfl
theorem inz228 : (Tryz.prog.info? 228).map (·.size) = some 16 := by kernel_rfl
theorem inz9 : (Tryz.prog.info? 9).map (·.size) = some 1 := by kernel_rfl
theorem inz236 : (Tryz.prog.info? 236).map (·.size) = some 160 := by kernel_rfl
theorem _root_.Go.Proofs.YtiahdbibeleakaaGreatDoor.Mem.oldcB {c : Ctx} {L : List Blk} {W : World} (M : Mem c L W) {g k : Nat} {v : Value} (hc : c.w.cell? ⟨g, k, none⟩ = some v) (hr : g ∉ c.r) : W.cell? ⟨g, k, none⟩ = some v := by
 have hlt : g < c.w.heap.size := by
  refine Classical.byContradiction fun hn => ?_
  have : c.w.heap[g]? = none := Array.getElem?_eq_none (by omega)
  simp [World.cell?, this] at hc
 rw [← hc]
 unfold World.cell?
 simp only
 rw [M.old.block g hlt hr]
theorem wrap64 {x : Int} (h0 : -9223372036854775808 ≤ x) (h1 : x < 9223372036854775808) : IntKind.wrap .i64 x = x := by
 simp [IntKind.wrap, IntKind.signed, IntKind.bits, go_sem]
 omega
theorem quo4 (j : Nat) (hj : j < 1000000) : IntKind.wrap .i64 ((j : Int).tdiv 4) = ((j / 4 : Nat) : Int) := by
 rw [Int.tdiv_eq_ediv_of_nonneg (by omega), wrap64 (by omega) (by omega)]
 omega
theorem rem4 (n : Nat) : Int.tmod (n : Int) 4 = ((n % 4 : Nat) : Int) := by
 rw [Int.tmod_eq_emod_of_nonneg (by omega)]
 omega
theorem run_shlV {P : Program} {a : Act} {o : Oper} (t rt : TypeId) (x y : Operand) (ho : o.op = .binOp .shl t x y rt) (k : Int) (ky : IntKind) (m : Nat) (hx : a.eval x = .int .u32 k) (hy : a.eval y = .int ky (m : Int)) (_hm : m ≤ 32) (w : World) :
  (execOp a.eval o).run P w = .ok (.value (.int .u32 (vl k m))) w := by
 unfold execOp vl
 simp [ho, hx, hy, eqGuard, binOp]
theorem run_ixP {P : Program} {a : Act} {o : Oper} (t : TypeId) (len : Nat) (elem : TypeId) (sz : Nat) (hu : P.underlying t = some (.array len elem)) (hs : (P.info? elem).map (·.size) = some sz) (hag : ∀ w, (isAgg elem).run P w = .ok true w) (x ix : Operand) (ho : o.op = .index t x ix) (F : NV) (n : Nat) (hx : a.eval x = .agg (av n F)) (k : IntKind) (i : Nat) (hi : a.eval ix = .int k (i : Int)) (hlt : i < len) (hn : i * sz + sz ≤ n) (w : World) :
  (execOp a.eval o).run P w = .ok (.value (.agg (av sz (fun j => F (i * sz + j))))) w := by
 have he : (av n F).extract (i * sz) (i * sz + sz) = av sz (fun j => F (i * sz + j)) := by
  apply Array.ext_getElem?
  intro j
  rw [Array.getElem?_extract]
  by_cases hj : j < sz
  ·rw [if_pos (by rw [av_size]; omega), av_get _ _ _ (by omega), av_get _ _ _ hj]
  ·rw [if_neg (by rw [av_size]; omega), Array.getElem?_eq_none (by rw [av_size]; omega)]
 cases hq : P.info? elem with
 | none => simp [hq] at hs
 | some u =>
  have hsz : u.size = sz := by simpa [hq] using hs
  unfold execOp
  simp [ho, hx, hi, Instr.index, asIntOf, run_underlying hu, sizeOf, typeInfo, hq, hsz, hlt, part, hag, he]
theorem pl_laid {P : Program} {ops : Array Oper} {rest : List Oper} {o : Oper} {a : Act} {w : World} {c : Ctx} {L : List Blk} {Q : Exit → Act → World → Prop} (M : Mem c L w) (hw : Region.wanted o (yielded ops a.tmps) = true) (d : Option Tmp) (hd : o.dst = d) (ty : TypeId) (x : Operand) (ho : o.op = .load ty x) (hx : a.eval x = .pointer (some ⟨0, 0, none⟩)) (t : TypeDesc) (hu : P.underlying ty = some t) (ht : t.isRow = true) (hz : (P.info? ty).map (·.size) = some 160)
  (h : PL P ops Q rest (a.put d (.agg (av 160 (w8 fun i => (OF i : Int))))) w) : PL P ops Q (o :: rest) a w := by
 refine pl_to hw d hd _ w ?_ h
 unfold execOp
 have hl := run_loadAt_mid (P := P) w 0 0 ty (av 160 (w8 fun i => (OF i : Int))).toList t (fun j v hv => by
  obtain ⟨hj, rfl⟩ := av_toList_get _ _ _ _ hv
  rw [Nat.zero_add]
  exact M.laid.o j hj) hu ht (by rw [hz]; simp [av_size])
 simp only [ho, hx, Sem.run_bind, hl, Result.andThen_ok, Sem.run_pure, Array.toArray_toList]
def rot (x : Int) (n : Nat) : Int := vo (vl x (32 - n)) (sr x n)
def r8 (a b c d e f g h : Int) : Nat → Int
 | 0 => a
 | 1 => b
 | 2 => c
 | 3 => d
 | 4 => e
 | 5 => f
 | 6 => g
 | 7 => h
 | _ => 0
def r4 (a b c d : Int) : Nat → Int
 | 0 => a
 | 1 => b
 | 2 => c
 | 3 => d
 | _ => 0
def HB : Nat → Int := r8 1779033703 3144134277 1013904242 2773480762 1359893119 2600822924 528734635 1541459225
def wo (rs : NI) : Nat → (Nat → Int)
 | 0 => fun _ => 0
 | j + 1 => upd (wo rs j) (j / 4) (vo (wo rs j (j / 4)) (vl (cv .u32 (rs j)) (j % 4 * 8)))
def spB (x : NI) : Nat → Int := fun i => if i < 8 then x i else HB (i - 8)
def spC (x : NI) (ct : Int) : Nat → Int := upd (upd (spB x) 12 (vx (spB x 12) (cv .u32 ct))) 13 (vx (upd (spB x) 12 (vx (spB x 12) (cv .u32 ct)) 13) (cv .u32 (sr ct 32)))
def spr (x : NI) (ct : Int) (last : Bool) : Nat → Int := if last then upd (spC x ct) 14 (vt (spC x ct 14)) else spC x ct
theorem run_ixL {P : Program} {a : Act} {o : Oper} (t elem : TypeId) (hu : P.underlying t = some (.slice elem)) (hs : (P.info? elem).map (·.size) = some 1) (x ix : Operand) (ho : o.op = .indexAddr t x ix) (g off len cap : Nat) (hx : a.eval x = .slice (some ⟨g, off, none⟩) len cap) (k : IntKind) (i : Nat) (hi : a.eval ix = .int k (i : Int)) (hlt : i < len) (w : World) :
  (execOp a.eval o).run P w = .ok (.value (.pointer (some ⟨g, off + i, none⟩))) w := by
 cases hq : P.info? elem with
 | none => simp [hq] at hs
 | some u =>
  have hsz : u.size = 1 := by simpa [hq] using hs
  unfold execOp
  simp [ho, hx, hi, Instr.indexAt, asIntOf, run_underlying hu, sizeOf, typeInfo, hq, hsz, add_at, hlt]
theorem c_rl16 (x : Int) (w : World) (hL : Laid w)  : Cs 179 #[.int .u32 x, .int .i64 (-16)] w (.int .u32 (rot x 16)) := by
 go_enter Tryz.func179, Tryz.ntmps179
 have M := Mem.start hL
 refine sq <| sq <| sq <| wp_ret ?_
 exact b1 M
theorem c_turned16 (x : Int) (w : World) (hL : Laid w)  : Cs 170 #[.int .u32 x, .int .i64 16] w (.int .u32 (rot x 16)) := by
 go_enter Tryz.func170, Tryz.ntmps170
 have M := Mem.start hL
 refine sq <| sR <| rV 3 ?_
 refine ZC M 8 (fun w M => c_rl16 x w M.laid) fun u1 M => ?_
 refine rV 1 <| nT <| wp_ret ?_
 exact b1 M
theorem c_rl12 (x : Int) (w : World) (hL : Laid w)  : Cs 179 #[.int .u32 x, .int .i64 (-12)] w (.int .u32 (rot x 12)) := by
 go_enter Tryz.func179, Tryz.ntmps179
 have M := Mem.start hL
 refine sq <| sq <| sq <| wp_ret ?_
 exact b1 M
theorem c_turned12 (x : Int) (w : World) (hL : Laid w)  : Cs 170 #[.int .u32 x, .int .i64 12] w (.int .u32 (rot x 12)) := by
 go_enter Tryz.func170, Tryz.ntmps170
 have M := Mem.start hL
 refine sq <| sR <| rV 3 ?_
 refine ZC M 8 (fun w M => c_rl12 x w M.laid) fun u1 M => ?_
 refine rV 1 <| nT <| wp_ret ?_
 exact b1 M
theorem c_rl8 (x : Int) (w : World) (hL : Laid w)  : Cs 179 #[.int .u32 x, .int .i64 (-8)] w (.int .u32 (rot x 8)) := by
 go_enter Tryz.func179, Tryz.ntmps179
 have M := Mem.start hL
 refine sq <| sq <| sq <| wp_ret ?_
 exact b1 M
theorem c_turned8 (x : Int) (w : World) (hL : Laid w)  : Cs 170 #[.int .u32 x, .int .i64 8] w (.int .u32 (rot x 8)) := by
 go_enter Tryz.func170, Tryz.ntmps170
 have M := Mem.start hL
 refine sq <| sR <| rV 3 ?_
 refine ZC M 8 (fun w M => c_rl8 x w M.laid) fun u1 M => ?_
 refine rV 1 <| nT <| wp_ret ?_
 exact b1 M
theorem c_rl7 (x : Int) (w : World) (hL : Laid w)  : Cs 179 #[.int .u32 x, .int .i64 (-7)] w (.int .u32 (rot x 7)) := by
 go_enter Tryz.func179, Tryz.ntmps179
 have M := Mem.start hL
 refine sq <| sq <| sq <| wp_ret ?_
 exact b1 M
theorem c_turned7 (x : Int) (w : World) (hL : Laid w)  : Cs 170 #[.int .u32 x, .int .i64 7] w (.int .u32 (rot x 7)) := by
 go_enter Tryz.func170, Tryz.ntmps170
 have M := Mem.start hL
 refine sq <| sR <| rV 3 ?_
 refine ZC M 8 (fun w M => c_rl7 x w M.laid) fun u1 M => ?_
 refine rV 1 <| nT <| wp_ret ?_
 exact b1 M
theorem c_first  (w : World) (hL : Laid w)  : Cs 142 #[] w (.agg (av 8 (w32 HB))) := by
 go_enter Tryz.func142, Tryz.ntmps142
 have M := Mem.start hL
 refine sR ?_
 refine pN M 0 (.cells (av 8 (w32 (fun _ => 0))) 203) fun g1 u1 M => ?_
 refine nT <| sR <| rV 1 ?_
 refine ZG M 0 8 (w32 HB) fun u2 M => ?_
 refine nT <| wp_ret ?_
 exact bc Tryz.results142 M 0 8 (w32 HB) ⟨rfl, below_grown M.old⟩
theorem c_words (rs : NI) (g n cap : Nat) (hn : n ≤ 64) (w : World) (hL : Laid w) (hc : ∀ i, i < n → w.cell? ⟨g, i, none⟩ = some (.int .u8 (rs i))) : Cs 167 #[.slice (some ⟨g, 0, none⟩) n cap] w (.agg (av 16 (w32 (wo rs n)))) := by
 go_enter Tryz.func167, Tryz.ntmps167
 have M := Mem.start hL
 refine sR ?_
 refine pN M 2 (.cells (av 16 (w32 (fun _ => 0))) 131) fun g1 u1 M => ?_
 refine nT <| sR ?_
 refine pN M 3 (.cells (av 16 (w32 (fun _ => 0))) 131) fun g2 u2 M => ?_
 refine nT <| wp_seq <| sq ?_
 refine wp_block ?_
 refine au_loop (fun j a w' => ∃ v1 : NV, a = (fm ([.slice (some ⟨g, 0, none⟩) n cap, v1 1, .pointer (some ⟨g1, 0, none⟩), .pointer (some ⟨g2, 0, none⟩)] ++ vr v1 4 2 ++ [.slice (some ⟨g, 0, none⟩) n cap, .int .i64 (n : Int), .int .i64 (j : Int)] ++ vr v1 9 18)) ∧ Mem ⟨w, []⟩ [⟨g1, .cells (av 16 (w32 (fun _ => 0))) 131⟩, ⟨g2, .cells (av 16 (w32 (wo rs j))) 131⟩] w') n (exS M) ?_ ?_
 ·intro j a u0 hj hI
  obtain ⟨v1, rfl, M⟩ := hI
  refine sR ?_
  refine ZT 9 ((j : Int) < (n : Int)) ?_
  refine nT <| wp_seq <| cT <| wp_skip <| au_then ?_
  refine wp_seq ?_
  refine wp_block ?_
  refine sR <| rV 1 ?_
  refine pH 11 (.pointer (some ⟨g, j, none⟩)) (fun w => Eq.trans (run_ixL 44 5 Tryz.underlying44 inz5 _ _ rfl g 0 n cap (by kernel_rfl) .i64 j (by kernel_rfl) hj w) (by rw [Nat.zero_add])) ?_
  refine pE M 12 g j (.int .u8 (rs j)) (fun w M => M.oldcB (hc j hj) (by simp)) ?_
  refine rV 2 <| nT ?_
  refine rg_tail M 12 (by kernel_rfl) (by kernel_rfl) ?_
  simp only [List.take_succ_cons, List.take_zero]
  refine kR 1 ?_
  refine eQ 14 .i64 (IntKind.wrap .i64 ((j : Int).tdiv 4)) (quo4 j (by omega)) ?_
  refine eX 15 .i64 g2 ((j / 4 : Nat)) 16 ?_
  refine eE M 16 1 ((j / 4 : Nat)) ?_
  refine kR 3 ?_
  refine eQ 20 .i64 (Int.tmod (j : Int) 4) (rem4 j) ?_
  refine eI 21 (((j % 4 : Nat) : Int) * 8) ((j % 4 * 8 : Nat) : Int) ?_
  refine kH 22 (.int .u32 (vl (cv .u32 (rs j)) (j % 4 * 8))) (run_shlV 84 3 _ _ rfl _ .i64 (j % 4 * 8) (by kernel_rfl) (by kernel_rfl) (by omega)) ?_
  refine kR 1 ?_
  refine eX 24 .i64 g2 ((j / 4 : Nat)) 16 ?_
  refine kl_nil fun u3 M => ?_
  refine ZP32 M 1 ((j / 4 : Nat)) (vo ((wo rs j) ((j / 4 : Nat))) (vl (cv .u32 (rs j)) (j % 4 * 8))) fun u4 M => ?_
  refine pl_nil ?_
  refine au_block ?_
  refine au_then ?_
  refine rg_lit ?_
  refine ZI 25 ((j : Int) + 1) ((j + 1 : Nat) : Int) ?_
  refine rV 1 <| nT ?_
  exact exS M
 ·intro a u0 hI
  obtain ⟨v1, rfl, M⟩ := hI
  refine sR ?_
  refine ZF 9 ((n : Int) < (n : Int)) ?_
  refine nT <| wp_seq <| cF ?_
  refine wp_exit ?_
  refine au_then_exit ?_
  refine au_then_exit ?_
  refine au_block_exit ?_
  refine au_then <| sR ?_
  refine pA M 26 1 16 (w32 (wo rs n)) ?_
  refine ZG M 0 16 (w32 (wo rs n)) fun u5 M => ?_
  refine nT <| wp_ret ?_
  exact bc Tryz.results167 M 0 16 (w32 (wo rs n)) ⟨rfl, below_grown M.old⟩
def spA (x : NI) : Nat → Int := fun i => if i < 8 then x i else 0
theorem spA_cp (x : NI) : ∀ j, j < 16 → (if 0 ≤ j ∧ j < 0 + 8 then w32 x (0 + (j - 0)) else w32 (fun _ => 0) j) = w32 (spA x) j := fun j hj => by
 unfold w32 spA
 by_cases h : j < 8
 ·rw [if_pos (by omega), if_pos h]
  congr 2
  omega
 ·rw [if_neg (by omega), if_neg h]
theorem spB_cp (x : NI) : ∀ j, j < 16 → (if 8 ≤ j ∧ j < 8 + 8 then w32 HB (0 + (j - 8)) else w32 (spA x) j) = w32 (spB x) j := fun j hj => by
 unfold w32 spA spB
 by_cases h : j < 8
 ·rw [if_neg (by omega), if_pos h, if_pos h]
 ·rw [if_pos (by omega), if_neg h, Nat.zero_add]
theorem c_spread_true (x : NI) (ct : Int) (w : World) (hL : Laid w)  : Cs 168 #[.agg (av 8 (w32 x)), .int .u64 ct, .bool true] w (.agg (av 16 (w32 (spr x ct true)))) := by
 go_enter Tryz.func168, Tryz.ntmps168
 have M := Mem.start hL
 refine sR ?_
 refine pN M 3 (.cells (av 8 (w32 x)) 203) fun g1 u1 M => ?_
 refine pN M 6 (.cells (av 16 (w32 (fun _ => 0))) 131) fun g2 u2 M => ?_
 refine nT <| sR ?_
 refine pN M 7 (.cells (av 16 (w32 (fun _ => 0))) 131) fun g3 u3 M => ?_
 refine nT <| sR ?_
 refine ZC M 9 (fun w M => c_first w M.laid) fun u4 M => ?_
 refine pN M 8 (.cells (av 8 (w32 (fun _ => 0))) 203) fun g4 u5 M => ?_
 refine ZG M 3 8 (w32 HB) fun u6 M => ?_
 refine nT <| wp_seq ?_
 refine rg_tail M 2 (by kernel_rfl) (by kernel_rfl) ?_
 simp only [List.take_succ_cons, List.take_zero]
 refine kR 2 ?_
 refine kl_nil fun u7 M => ?_
 refine pl_copyB M (want_no rfl) (some 12) rfl 246 246 3 84 Tryz.underlying246 inz84 2 g3 16 131 (w32 (fun _ => 0)) rfl 0 g1 8 203 (w32 x) rfl 0 8 16 0 8 8 8 rfl (by decide) (by decide) (fun _ _ => rfl) (w32 (spA x)) (spA_cp x) (fun _ => by kernel_rfl) fun u8 M => ?_
 refine nT <| wp_seq ?_
 refine rg_tail M 2 (by kernel_rfl) (by kernel_rfl) ?_
 simp only [List.take_succ_cons, List.take_zero]
 refine kR 2 ?_
 refine kl_nil fun u9 M => ?_
 refine pl_copyB M (want_no rfl) (some 15) rfl 246 246 3 84 Tryz.underlying246 inz84 2 g3 16 131 (w32 (spA x)) rfl 3 g4 8 203 (w32 HB) rfl 8 8 8 0 8 8 8 rfl (by decide) (by decide) (fun _ _ => rfl) (w32 (spB x)) (spB_cp x) (fun _ => by kernel_rfl) fun u10 M => ?_
 refine nT <| sR <| rV 1 <| ZE M 17 2 12 <| rV 4 ?_
 refine ZP32 M 2 12 (vx ((spB x) 12) (cv .u32 ct)) fun u11 M => ?_
 refine nT <| sR <| rV 1 <| ZE M 23 2 13 <| rV 5 ?_
 refine ZP32 M 2 13 (vx ((upd (spB x) 12 (vx ((spB x) 12) (cv .u32 ct))) 13) (cv .u32 (sr ct 32))) fun u12 M => ?_
 refine nT <| wp_seq <| sq <| cT ?_
 refine rg_lit ?_
 refine rV 1 <| ZE M 31 2 14 <| rV 2 ?_
 refine ZP32 M 2 14 (vt ((upd (upd (spB x) 12 (vx ((spB x) 12) (cv .u32 ct))) 13 (vx ((upd (spB x) 12 (vx ((spB x) 12) (cv .u32 ct))) 13) (cv .u32 (sr ct 32)))) 14)) fun u13 M => ?_
 refine nT <| sR ?_
 refine pA M 34 2 16 (w32 (upd (upd (upd (spB x) 12 (vx ((spB x) 12) (cv .u32 ct))) 13 (vx ((upd (spB x) 12 (vx ((spB x) 12) (cv .u32 ct))) 13) (cv .u32 (sr ct 32)))) 14 (vt ((upd (upd (spB x) 12 (vx ((spB x) 12) (cv .u32 ct))) 13 (vx ((upd (spB x) 12 (vx ((spB x) 12) (cv .u32 ct))) 13) (cv .u32 (sr ct 32)))) 14)))) ?_
 refine ZG M 1 16 (w32 (upd (upd (upd (spB x) 12 (vx ((spB x) 12) (cv .u32 ct))) 13 (vx ((upd (spB x) 12 (vx ((spB x) 12) (cv .u32 ct))) 13) (cv .u32 (sr ct 32)))) 14 (vt ((upd (upd (spB x) 12 (vx ((spB x) 12) (cv .u32 ct))) 13 (vx ((upd (spB x) 12 (vx ((spB x) 12) (cv .u32 ct))) 13) (cv .u32 (sr ct 32)))) 14)))) fun u14 M => ?_
 refine nT <| wp_ret ?_
 exact bc Tryz.results168 M 1 16 (w32 (spr x ct true)) ⟨rfl, below_grown M.old⟩
theorem c_spread_false (x : NI) (ct : Int) (w : World) (hL : Laid w)  : Cs 168 #[.agg (av 8 (w32 x)), .int .u64 ct, .bool false] w (.agg (av 16 (w32 (spr x ct false)))) := by
 go_enter Tryz.func168, Tryz.ntmps168
 have M := Mem.start hL
 refine sR ?_
 refine pN M 3 (.cells (av 8 (w32 x)) 203) fun g1 u1 M => ?_
 refine pN M 6 (.cells (av 16 (w32 (fun _ => 0))) 131) fun g2 u2 M => ?_
 refine nT <| sR ?_
 refine pN M 7 (.cells (av 16 (w32 (fun _ => 0))) 131) fun g3 u3 M => ?_
 refine nT <| sR ?_
 refine ZC M 9 (fun w M => c_first w M.laid) fun u4 M => ?_
 refine pN M 8 (.cells (av 8 (w32 (fun _ => 0))) 203) fun g4 u5 M => ?_
 refine ZG M 3 8 (w32 HB) fun u6 M => ?_
 refine nT <| wp_seq ?_
 refine rg_tail M 2 (by kernel_rfl) (by kernel_rfl) ?_
 simp only [List.take_succ_cons, List.take_zero]
 refine kR 2 ?_
 refine kl_nil fun u7 M => ?_
 refine pl_copyB M (want_no rfl) (some 12) rfl 246 246 3 84 Tryz.underlying246 inz84 2 g3 16 131 (w32 (fun _ => 0)) rfl 0 g1 8 203 (w32 x) rfl 0 8 16 0 8 8 8 rfl (by decide) (by decide) (fun _ _ => rfl) (w32 (spA x)) (spA_cp x) (fun _ => by kernel_rfl) fun u8 M => ?_
 refine nT <| wp_seq ?_
 refine rg_tail M 2 (by kernel_rfl) (by kernel_rfl) ?_
 simp only [List.take_succ_cons, List.take_zero]
 refine kR 2 ?_
 refine kl_nil fun u9 M => ?_
 refine pl_copyB M (want_no rfl) (some 15) rfl 246 246 3 84 Tryz.underlying246 inz84 2 g3 16 131 (w32 (spA x)) rfl 3 g4 8 203 (w32 HB) rfl 8 8 8 0 8 8 8 rfl (by decide) (by decide) (fun _ _ => rfl) (w32 (spB x)) (spB_cp x) (fun _ => by kernel_rfl) fun u10 M => ?_
 refine nT <| sR <| rV 1 <| ZE M 17 2 12 <| rV 4 ?_
 refine ZP32 M 2 12 (vx ((spB x) 12) (cv .u32 ct)) fun u11 M => ?_
 refine nT <| sR <| rV 1 <| ZE M 23 2 13 <| rV 5 ?_
 refine ZP32 M 2 13 (vx ((upd (spB x) 12 (vx ((spB x) 12) (cv .u32 ct))) 13) (cv .u32 (sr ct 32))) fun u12 M => ?_
 refine nT <| wp_seq <| sq <| cF <| wp_skip ?_
 refine au_then <| sR ?_
 refine pA M 34 2 16 (w32 (upd (upd (spB x) 12 (vx ((spB x) 12) (cv .u32 ct))) 13 (vx ((upd (spB x) 12 (vx ((spB x) 12) (cv .u32 ct))) 13) (cv .u32 (sr ct 32))))) ?_
 refine ZG M 1 16 (w32 (upd (upd (spB x) 12 (vx ((spB x) 12) (cv .u32 ct))) 13 (vx ((upd (spB x) 12 (vx ((spB x) 12) (cv .u32 ct))) 13) (cv .u32 (sr ct 32))))) fun u13 M => ?_
 refine nT <| wp_ret ?_
 exact bc Tryz.results168 M 1 16 (w32 (spr x ct false)) ⟨rfl, below_grown M.old⟩
theorem c_spread (x : NI) (ct : Int) (last : Bool) (w : World) (hL : Laid w) : Cs 168 #[.agg (av 8 (w32 x)), .int .u64 ct, .bool last] w (.agg (av 16 (w32 (spr x ct last)))) := by
 cases last
 ·exact c_spread_false x ct w hL
 ·exact c_spread_true x ct w hL
end Go.Proofs.YtiahdbibeleakaaGreatDoor.Bla
