/- Part 2 of the walks and facts. -/
import Derived.Test.YtiahdbibeleakaaGreatDoorCa1
import Derived.Lib.FrozenHead2
import Derived.Shelf.Abstract
set_option maxHeartbeats 16000000
set_option maxRecDepth 100000
set_option linter.unusedSimpArgs false
set_option linter.unusedVariables false
namespace Go.Proofs.YtiahdbibeleakaaGreatDoor
open Go.RowKit
theorem cvu64 (n : Nat) (h : n < 1000000000000) : cv .u64 (n : Int) = (n : Int) := by
 unfold cv
 simp [IntKind.wrap, IntKind.signed, IntKind.bits]
 omega
theorem wu64 (n : Nat) (h : n < 1000000000000) : IntKind.wrap .u64 (n : Int) = (n : Int) := cvu64 n h
theorem quoU (n : Nat) (h : n < 1000000000000) : IntKind.wrap .u64 ((n : Int).tdiv 64) = ((n / 64 : Nat) : Int) := by
 rw [Int.tdiv_eq_ediv_of_nonneg (by omega), show ((n : Int) / 64) = ((n / 64 : Nat) : Int) by omega, wu64 _ (by omega)]
theorem bl_nn (f : NI) (i : Nat) : 0 ≤ bl f i ∧ bl f i < 256 := by
 unfold bl cv
 simp [IntKind.wrap, IntKind.signed, IntKind.bits]
 omega
def blk (f : NI) : ByteArray := bs ((List.range 64).map (bl f))
theorem blk_size (f : NI) : (blk f).size = 64 := by
 unfold blk
 rw [bs_size]
 simp
theorem blk_nn (f : NI) : ∀ x ∈ (List.range 64).map (bl f), 0 ≤ x ∧ x < 256 := fun x hx => by
 obtain ⟨i, _, rfl⟩ := List.mem_map.1 hx
 exact bl_nn f i
def strE : ByteArray := ⟨#[]⟩
theorem c_areA (key nonce : Yb) (hk : key.size = 32) (hn : nonce.size = 12) (w : World) (hL : Laid w)  : Cs 99 #[.string key, .string nonce] w (.bool true) := by
 go_enter Tryz.func99, Tryz.ntmps99
 have M := Mem.start hL
 refine sq <| sR <| rV 2 <| ZT 7 ((key.size : Int) = 32) <| rV 3 <| ZT 11 ((nonce.size : Int) = 12) <| rV 2 <| nT <| wp_ret ?_
 exact b1 M
theorem c_areB (key nonce : Yb) (hk : key.size = 32) (hn : nonce.size ≠ 12) (w : World) (hL : Laid w)  : Cs 99 #[.string key, .string nonce] w (.bool false) := by
 go_enter Tryz.func99, Tryz.ntmps99
 have M := Mem.start hL
 refine sq <| sR <| rV 2 <| ZT 7 ((key.size : Int) = 32) <| rV 3 <| ZF 11 ((nonce.size : Int) = 12) <| rV 2 <| nT <| wp_ret ?_
 exact b1 M
theorem c_areC (key nonce : Yb) (hk : key.size ≠ 32) (w : World) (hL : Laid w)  : Cs 99 #[.string key, .string nonce] w (.bool false) := by
 go_enter Tryz.func99, Tryz.ntmps99
 have M := Mem.start hL
 refine sq <| sR <| rV 2 <| ZF 7 ((key.size : Int) = 32) <| rV 6 <| nT <| wp_ret ?_
 exact b1 M
theorem c_are (key nonce : Yb) (w : World) (hL : Laid w) : Calls Tryz.prog 99 #[.string key, .string nonce] w fun r w' => r = .returned (.bool (decide (key.size = 32 ∧ nonce.size = 12))) ∧ Below w.heap.size w w' := by
 by_cases hk : key.size = 32
 ·by_cases hn : nonce.size = 12
  ·rw [decide_eq_true ⟨hk, hn⟩]
   exact c_areA key nonce hk hn w hL
  ·rw [decide_eq_false (fun h => hn h.2)]
   exact c_areB key nonce hk hn w hL
 ·rw [decide_eq_false (fun h => hk h.1)]
  exact c_areC key nonce hk w hL
theorem d_mayA (key nonce : Yb) (hk : key.size = 32) (hn : nonce.size = 12) (w : World) (hL : Laid w)  : Cs 26 #[.string key, .string nonce] w (.bool true) := by
 go_enter Tryz.func26, Tryz.ntmps26
 have M := Mem.start hL
 refine sq <| sR <| rV 2 <| ZT 7 ((key.size : Int) = 32) <| rV 3 <| ZT 11 ((nonce.size : Int) = 12) <| rV 2 <| nT <| wp_ret ?_
 exact b1 M
theorem d_mayB (key nonce : Yb) (hk : key.size = 32) (hn : nonce.size ≠ 12) (w : World) (hL : Laid w)  : Cs 26 #[.string key, .string nonce] w (.bool false) := by
 go_enter Tryz.func26, Tryz.ntmps26
 have M := Mem.start hL
 refine sq <| sR <| rV 2 <| ZT 7 ((key.size : Int) = 32) <| rV 3 <| ZF 11 ((nonce.size : Int) = 12) <| rV 2 <| nT <| wp_ret ?_
 exact b1 M
theorem d_mayC (key nonce : Yb) (hk : key.size ≠ 32) (w : World) (hL : Laid w)  : Cs 26 #[.string key, .string nonce] w (.bool false) := by
 go_enter Tryz.func26, Tryz.ntmps26
 have M := Mem.start hL
 refine sq <| sR <| rV 2 <| ZF 7 ((key.size : Int) = 32) <| rV 6 <| nT <| wp_ret ?_
 exact b1 M
theorem d_may (key nonce : Yb) (w : World) (hL : Laid w) : Calls Tryz.prog 26 #[.string key, .string nonce] w fun r w' => r = .returned (.bool (decide (key.size = 32 ∧ nonce.size = 12))) ∧ Below w.heap.size w w' := by
 by_cases hk : key.size = 32
 ·by_cases hn : nonce.size = 12
  ·rw [decide_eq_true ⟨hk, hn⟩]
   exact d_mayA key nonce hk hn w hL
  ·rw [decide_eq_false (fun h => hn h.2)]
   exact d_mayB key nonce hk hn w hL
 ·rw [decide_eq_false (fun h => hk h.1)]
  exact d_mayC key nonce hk w hL
theorem c_need (s : Yb) (hz : s.size ≤ 200000) (w : World) (hL : Laid w)  : Cs 100 #[.string s] w (.int .u64 (((s.size + 63) / 64 : Nat) : Int)) := by
 go_enter Tryz.func100, Tryz.ntmps100
 have M := Mem.start hL
 refine sq <| sR <| rV 2 <| ZQ 5 .u64 (cv .u64 (s.size : Int)) (cvu64 _ (by omega)) <| zJ 6 (.int .u64 ((s.size + 64 : Nat) : Int)) (.int .u64 (IntKind.wrap .u64 ((s.size : Int) + 64))) (by rw [show (s.size : Int) + 64 = ((s.size + 64 : Nat) : Int) by omega, wu64 _ (by omega)]) <| zJ 7 (.int .u64 ((s.size + 63 : Nat) : Int)) (.int .u64 (IntKind.wrap .u64 (((s.size + 64 : Nat) : Int) - 1))) (by rw [show ((s.size + 64 : Nat) : Int) - 1 = ((s.size + 63 : Nat) : Int) by omega, wu64 _ (by omega)]) <| ZQ 8 .u64 (IntKind.wrap .u64 (((s.size + 63 : Nat) : Int).tdiv 64)) (quoU _ (by omega)) <| rV 1 <| nT <| wp_ret ?_
 exact b1 M
theorem c_BlockA (key nonce : Yb) (n : Int) (hm : (key.size = 32 ∧ nonce.size = 12)) (w : World) (hL : Laid w)  : Cs 103 #[.string key, .string nonce, .int .u32 n] w (.tuple #[.string (blk (fw key nonce n)), .int .i64 0]) := by
 go_enter Tryz.func103, Tryz.ntmps103
 have M := Mem.start hL
 refine sq <| wp_seq <| sR <| rV 2 <| pC M 11 99 #[.string key, .string nonce] (.bool true) (fun w M => (by rw [← decide_eq_true hm]; exact c_are key nonce w M.laid)) fun u1 M => rV 1 <| nT <| cF <| wp_skip <| au_then <| sR <| rV 3 <| ZC M 16 (fun w M => c_first key nonce n hm.1 hm.2 w M.laid) fun u2 M => ZC M 17 (fun w M => c_block (fw key nonce n) w M.laid) fun u3 M => pN M 8 (.cells (av 64 (w8 (fun _ => 0))) 176) fun g1 u4 M => ZG M 0 64 (w8 (bl (fw key nonce n))) fun u5 M => ?_
 refine nT <| sR <| rV 1 <| pl_back M (want_no rfl) (some 19) rfl _ rfl 0 g1 64 64 (by kernel_rfl) _ rfl ((List.range 64).map (bl (fw key nonce n))) 64 (sb_av 64 _ _) (by simp) (blk_nn _) <| rV 2 <| nT <| wp_ret ?_
 exact b1 M
theorem c_TurnA (key nonce : Yb) (n : Nat) (hn : n < 4294967296) (s : Yb) (hz : s.size ≤ 200000) (hm : (key.size = 32 ∧ nonce.size = 12)) (hl : ¬ (4294967296 < n + (s.size + 63) / 64)) (w : World) (hL : Laid w)  : Cs 70 #[.string key, .string nonce, .int .u32 (n : Int), .string s] w (.tuple #[.string (oS (fw key nonce (n : Int)) s), .int .i64 0]) := by
 go_enter Tryz.func70, Tryz.ntmps70
 have M := Mem.start hL
 refine sq <| wp_seq <| sR <| rV 2 <| pC M 12 99 #[.string key, .string nonce] (.bool true) (fun w M => (by rw [← decide_eq_true hm]; exact c_are key nonce w M.laid)) fun u1 M => rV 1 <| nT <| cF <| wp_skip <| au_then <| wp_seq <| sR <| rV 1 <| ZQ 15 .u64 (cv .u64 (n : Int)) (cvu64 _ (by omega)) <| rV 1 <| ZC M 17 (fun w M => c_need s hz w M.laid) fun u2 M => ?_
 refine zJ 18 (.int .u64 ((n + (s.size + 63) / 64 : Nat) : Int)) (.int .u64 (IntKind.wrap .u64 ((n : Int) + (((s.size + 63) / 64 : Nat) : Int)))) (by rw [show (n : Int) + (((s.size + 63) / 64 : Nat) : Int) = ((n + (s.size + 63) / 64 : Nat) : Int) by omega, wu64 _ (by omega)]) <| ZF 19 ((4294967296 : Int) < ((n + (s.size + 63) / 64 : Nat) : Int)) <| nT <| cF <| wp_skip <| au_then <| sR <| rV 4 <| ZC M 24 (fun w M => c_first key nonce (n : Int) hm.1 hm.2 w M.laid) fun u3 M => ZC M 25 (fun w M => c_turned s (fw key nonce (n : Int)) hz w M.laid) fun u4 M => rV 2 <| nT <| wp_ret ?_
 exact b1 M
open Go.RowKit
section
variable {P : Program} {ops : Array Oper} {rest : List Oper} {o : Oper} {a : Act} {w : World} {c : Ctx} {L : List Blk} {Q : Exit → Act → World → Prop}
theorem SB.put {Z : Obj} {cap : Nat} {l : List Value} (h : SB Z cap l) {i : Nat} (hi : i < l.length) (v : Value) {W : World} {g : Nat} (hz : W.heap[g]? = some Z) : ∃ Z', (W.setCell ⟨g, i, none⟩ v).heap[g]? = some Z' ∧ SB Z' cap (l.set i v) := by
 obtain ⟨cs, T, fr, rfl, h1, h2, h3, h4⟩ := h.ex
 refine ⟨.cells (cs.setIfInBounds i v) T fr, ?_, ⟨_, T, fr, rfl, by simpa using h1, by simpa using h2, fun j hj => ?_, h4⟩⟩
 ·simp [World.setCell, Array.getElem?_modify, hz]
 ·rw [List.length_set] at hj
  rw [Array.getElem?_setIfInBounds, List.getElem?_set]
  by_cases e : i = j
  ·subst e
   rw [if_pos rfl, if_pos rfl, if_pos (by omega), if_pos hi]
  ·rw [if_neg e, if_neg e, h3 j hj]
theorem SB.free {Z : Obj} {cap : Nat} {l : List Value} (h : SB Z cap l) {i : Nat} (hi : i < l.length) {W : World} {g : Nat} (hz : W.heap[g]? = some Z) : W.frozen? ⟨g, i, none⟩ = false := by
 obtain ⟨cs, T, fr, rfl, h1, h2, h3, h4⟩ := h.ex
 unfold World.frozen?
 rw [hz]
 exact h4 i (by omega)
theorem pl_putS (M : Mem c L w) (hw : Region.wanted o (yielded ops a.tmps) = true) (hd : o.dst = none) (ty : TypeId) (x y : Operand) (ho : o.op = .store ty x y) (i g off : Nat) (hx : a.eval x = .pointer (some ⟨g, off, none⟩)) (Z : Obj) (hi : L[i]? = some ⟨g, Z⟩) (cap : Nat) (l : List Value) (hs : SB Z cap l) (hk : off < l.length) (v : Value)
  (hy : a.eval y = v) (hz : (P.info? ty).map (·.size) = some 1) (h1 : v.oneCell' = true) (hc : v.cells = #[v])
  (h : ∀ Z' w', SB Z' cap (l.set off v) → Mem c (L.set i ⟨g, Z'⟩) w' → PL P ops Q rest a w') : PL P ops Q (o :: rest) a w := by
 have R := M.get i hi
 obtain ⟨Z', h2, h3⟩ := hs.put hk v R
 have h4 := h Z' (w.setCell ⟨g, off, none⟩ v) h3 (M.put i ⟨g, _⟩ hi _ (grown_setCell w g off v) h2)
 have hcell : w.cell? ⟨g, off, none⟩ = some l[off] := hs.cell R (List.getElem?_eq_getElem hk)
 have hrun : (Instr.storeAt ty (.pointer (some ⟨g, off, none⟩)) v).run P w = .ok () (w.setCell ⟨g, off, none⟩ v) := by
  cases hq : P.info? ty with
  | none => simp [hq] at hz
  | some t =>
   have ht : t.size = 1 := by simpa [hq] using hz
   have hcc := run_storeCells_cells (P := P) g off [v] 0 w (by intro j hj; simp at hj; subst hj; simp [hcell]) (by intro j hj; simp at hj; subst hj; simpa using hs.free hk R) (by simpa using h1)
   simp only [Nat.add_zero, World.setCells] at hcc
   simp [Instr.storeAt, Instr.sureAddr, storeVar, sizeOf, typeInfo, hq, ht, hc, hcc]
 refine ⟨Go.BigFrame.wpList_want hw fun K hK => ?_⟩
 unfold Oper.wp execOp
 simp only [ho, hx, hy, Sem.run_bind, hrun, Result.andThen_ok, Sem.run_pure]
 show K (a.put o.dst undef) _
 rw [hd]
 exact hK _ _ h4.out
end
def wd4 (s : Yb) : Int := vo (vo (vo (cv .u32 (bt s 0)) (vl (cv .u32 (bt s 1)) 8)) (vl (cv .u32 (bt s 2)) 16)) (vl (cv .u32 (bt s 3)) 24)
theorem d_word (s : Yb) (hs : s.size = 4) (w : World) (hL : Laid w)  : Cs 82 #[.string s] w (.int .u32 (wd4 s)) := by
 go_enter Tryz.func82, Tryz.ntmps82
 have M := Mem.start hL
 refine sq <| wp_seq <| rg_tail M 18 (by kernel_rfl) (by kernel_rfl) ?_
 simp only [List.take_succ_cons, List.take_zero]
 refine kR 1 <| kH 4 (.int .u8 (bt s 0)) (run_ixS 9 Tryz.underlying9 _ _ rfl s (by kernel_rfl) .i64 0 (by kernel_rfl) (by omega)) <| kR 2 <| kH 7 (.int .u8 (bt s 1)) (run_ixS 9 Tryz.underlying9 _ _ rfl s (by kernel_rfl) .i64 1 (by kernel_rfl) (by omega)) <| kR 4 <| kH 12 (.int .u8 (bt s 2)) (run_ixS 9 Tryz.underlying9 _ _ rfl s (by kernel_rfl) .i64 2 (by kernel_rfl) (by omega)) <| kR 4 <| kH 17 (.int .u8 (bt s 3)) (run_ixS 9 Tryz.underlying9 _ _ rfl s (by kernel_rfl) .i64 3 (by kernel_rfl) (by omega)) <| kR 3 <| kl_nil fun u1 M => rV 1 <| nT <| wp_ret ?_
 exact b1 M
def e1 (v : NI) (p0 p1 : Nat) : Nat → Int := upd v p0 (va (v p0) (v p1))
def e2 (v : NI) (p0 p1 p3 : Nat) : Nat → Int := upd (e1 v p0 p1) p3 (vx ((e1 v p0 p1) p3) ((e1 v p0 p1) p0))
def e3 (v : NI) (p0 p1 p3 : Nat) : Nat → Int := upd (e2 v p0 p1 p3) p3 (rl ((e2 v p0 p1 p3) p3) 16)
def e4 (v : NI) (p0 p1 p2 p3 : Nat) : Nat → Int := upd (e3 v p0 p1 p3) p2 (va ((e3 v p0 p1 p3) p2) ((e3 v p0 p1 p3) p3))
def e5 (v : NI) (p0 p1 p2 p3 : Nat) : Nat → Int := upd (e4 v p0 p1 p2 p3) p1 (vx ((e4 v p0 p1 p2 p3) p1) ((e4 v p0 p1 p2 p3) p2))
def e6 (v : NI) (p0 p1 p2 p3 : Nat) : Nat → Int := upd (e5 v p0 p1 p2 p3) p1 (rl ((e5 v p0 p1 p2 p3) p1) 12)
def e7 (v : NI) (p0 p1 p2 p3 : Nat) : Nat → Int := upd (e6 v p0 p1 p2 p3) p0 (va ((e6 v p0 p1 p2 p3) p0) ((e6 v p0 p1 p2 p3) p1))
def e8 (v : NI) (p0 p1 p2 p3 : Nat) : Nat → Int := upd (e7 v p0 p1 p2 p3) p3 (vx ((e7 v p0 p1 p2 p3) p3) ((e7 v p0 p1 p2 p3) p0))
def e9 (v : NI) (p0 p1 p2 p3 : Nat) : Nat → Int := upd (e8 v p0 p1 p2 p3) p3 (rl ((e8 v p0 p1 p2 p3) p3) 8)
def e10 (v : NI) (p0 p1 p2 p3 : Nat) : Nat → Int := upd (e9 v p0 p1 p2 p3) p2 (va ((e9 v p0 p1 p2 p3) p2) ((e9 v p0 p1 p2 p3) p3))
def e11 (v : NI) (p0 p1 p2 p3 : Nat) : Nat → Int := upd (e10 v p0 p1 p2 p3) p1 (vx ((e10 v p0 p1 p2 p3) p1) ((e10 v p0 p1 p2 p3) p2))
def e12 (v : NI) (p0 p1 p2 p3 : Nat) : Nat → Int := upd (e11 v p0 p1 p2 p3) p1 (rl ((e11 v p0 p1 p2 p3) p1) 7)
theorem up_at (f : NI) (k : Nat) (x : Int) : upd f k x k = x := if_pos rfl
theorem up_ne (f : NI) (k : Nat) (x : Int) {j : Nat} (h : j ≠ k) : upd f k x j = f j := if_neg h
theorem up_up (f : NI) (k : Nat) (x y : Int) : upd (upd f k x) k y = upd f k y := by
 funext t
 unfold upd
 split <;> rfl
theorem up_comm (f : NI) {i j : Nat} (h : i ≠ j) (x y : Int) : upd (upd f i x) j y = upd (upd f j y) i x := by
 funext t
 unfold upd
 by_cases h1 : t = j
 ·subst h1
  rw [if_pos rfl, if_neg (Ne.symm h), if_pos rfl]
 ·rw [if_neg h1, if_neg h1]
theorem e12_eq (v : NI) (i j k l : Nat) (hij : i ≠ j) (hik : i ≠ k) (hil : i ≠ l) (hjk : j ≠ k) (hjl : j ≠ l) (hkl : k ≠ l) : e12 v i j k l = mxF v i j k l := by
 have a3 : e3 v i j l = upd (upd v i (mA1 v i j)) l (mD1 v i j l) := by
  unfold e3 e2 e1 mD1 mA1
  rw [up_up, up_at, up_ne _ _ _ (Ne.symm hil), up_at]
 have a4 : e4 v i j k l = upd (upd (upd v i (mA1 v i j)) l (mD1 v i j l)) k (mC1 v i j k l) := by
  unfold e4 mC1
  rw [a3, up_at, up_ne _ _ _ hkl, up_ne _ _ _ (Ne.symm hik)]
 have a6 : e6 v i j k l = upd (upd (upd (upd v i (mA1 v i j)) l (mD1 v i j l)) k (mC1 v i j k l)) j (mB1 v i j k l) := by
  unfold e6 e5 mB1
  rw [up_up, up_at, a4, up_at, up_ne _ _ _ hjk, up_ne _ _ _ hjl, up_ne _ _ _ (Ne.symm hij)]
 have a7 : e7 v i j k l = upd (e6 v i j k l) i (mA2 v i j k l) := by
  unfold e7 mA2
  rw [a6, up_at, up_ne _ _ _ hij, up_ne _ _ _ hik, up_ne _ _ _ hil, up_at]
 have a9 : e9 v i j k l = upd (e7 v i j k l) l (mD2 v i j k l) := by
  unfold e9 e8 mD2
  rw [up_up, up_at, a7, up_at, a6, up_ne _ _ _ (Ne.symm hil), up_ne _ _ _ (Ne.symm hjl), up_ne _ _ _ (Ne.symm hkl), up_at]
 have a10 : e10 v i j k l = upd (e9 v i j k l) k (mC2 v i j k l) := by
  unfold e10 mC2
  rw [a9, up_at, a7, a6, up_ne _ _ _ hkl, up_ne _ _ _ (Ne.symm hik), up_ne _ _ _ (Ne.symm hjk), up_at]
 have a12 : e12 v i j k l = upd (e10 v i j k l) j (mB2 v i j k l) := by
  unfold e12 e11 mB2
  rw [up_up, up_at, a10, up_at, a9, a7, a6, up_ne _ _ _ hjk, up_ne _ _ _ hjl, up_ne _ _ _ (Ne.symm hij), up_at]
 rw [a12, a10, a9, a7, a6]
 funext t
 unfold mxF upd
 by_cases h1 : t = l
 ·subst h1
  simp [Ne.symm hjl, Ne.symm hkl]
 ·by_cases h2 : t = k
  ·subst h2
   simp [h1, Ne.symm hjk]
  ·by_cases h3 : t = j
   ·subst h3
    simp [h1, h2]
   ·by_cases h4 : t = i
    ·subst h4
     simp [h1, h2, h3]
    ·simp [h1, h2, h3, h4]
theorem d_quarter (v : NI) (p0 p1 p2 p3 : Nat) (h0 : p0 < 16) (h1 : p1 < 16) (h2 : p2 < 16) (h3 : p3 < 16) (d0 : p0 ≠ p1) (d1 : p0 ≠ p2) (d2 : p0 ≠ p3) (d3 : p1 ≠ p2) (d4 : p1 ≠ p3) (d5 : p2 ≠ p3) (w : World) (hL : Laid w)  : Cs 83 #[.agg (av 16 (w32 v)), .int .i64 (p0 : Int), .int .i64 (p1 : Int), .int .i64 (p2 : Int), .int .i64 (p3 : Int)] w (.agg (av 16 (w32 (mxF v p0 p1 p2 p3)))) := by
 go_enter Tryz.func83, Tryz.ntmps83
 have M := Mem.start hL
 refine sR <| pN M 5 (.cells (av 16 (w32 v)) 131) fun g1 u1 M => pN M 10 (.cells (av 16 (w32 (fun _ => 0))) 131) fun g2 u2 M => nT <| wp_seq <| rg_tail M 9 (by kernel_rfl) (by kernel_rfl) ?_
 simp only [List.take_succ_cons, List.take_zero]
 refine kR 2 <| eX 13 .i64 g1 (p0) 16 <| eE M 14 0 p0 <| kR 1 <| eX 16 .i64 g1 (p1) 16 <| eE M 17 0 p1 <| kR 1 <| eX 19 .i64 g1 (p0) 16 <| kl_nil fun u3 M => ZP32 M 0 p0 (va (v p0) (v p1)) fun u4 M => nT <| wp_seq <| rg_tail M 9 (by kernel_rfl) (by kernel_rfl) ?_
 simp only [List.take_succ_cons, List.take_zero]
 refine kR 2 <| eX 22 .i64 g1 (p3) 16 <| eE M 23 0 p3 <| kR 1 <| eX 25 .i64 g1 (p0) 16 <| eE M 26 0 p0 <| kR 1 <| eX 28 .i64 g1 (p3) 16 <| kl_nil fun u5 M => ZP32 M 0 p3 (vx ((e1 v p0 p1) p3) ((e1 v p0 p1) p0)) fun u6 M => nT <| wp_seq <| rg_tail M 11 (by kernel_rfl) (by kernel_rfl) ?_
 simp only [List.take_succ_cons, List.take_zero]
 refine kR 2 <| eX 31 .i64 g1 (p3) 16 <| eE M 32 0 p3 <| kR 2 <| eX 35 .i64 g1 (p3) 16 <| eE M 36 0 p3 <| kR 2 <| eX 39 .i64 g1 (p3) 16 <| kl_nil fun u7 M => ZP32 M 0 p3 (vo (vl ((e2 v p0 p1 p3) p3) 16) (sr ((e2 v p0 p1 p3) p3) 16)) fun u8 M => nT <| wp_seq <| rg_tail M 9 (by kernel_rfl) (by kernel_rfl) ?_
 simp only [List.take_succ_cons, List.take_zero]
 refine kR 2 <| eX 42 .i64 g1 (p2) 16 <| eE M 43 0 p2 <| kR 1 <| eX 45 .i64 g1 (p3) 16 <| eE M 46 0 p3 <| kR 1 <| eX 48 .i64 g1 (p2) 16 <| kl_nil fun u9 M => ZP32 M 0 p2 (va ((e3 v p0 p1 p3) p2) ((e3 v p0 p1 p3) p3)) fun u10 M => nT <| wp_seq <| rg_tail M 9 (by kernel_rfl) (by kernel_rfl) ?_
 simp only [List.take_succ_cons, List.take_zero]
 refine kR 2 <| eX 51 .i64 g1 (p1) 16 <| eE M 52 0 p1 <| kR 1 <| eX 54 .i64 g1 (p2) 16 <| eE M 55 0 p2 <| kR 1 <| eX 57 .i64 g1 (p1) 16 <| kl_nil fun u11 M => ZP32 M 0 p1 (vx ((e4 v p0 p1 p2 p3) p1) ((e4 v p0 p1 p2 p3) p2)) fun u12 M => nT <| wp_seq <| rg_tail M 11 (by kernel_rfl) (by kernel_rfl) ?_
 simp only [List.take_succ_cons, List.take_zero]
 refine kR 2 <| eX 60 .i64 g1 (p1) 16 <| eE M 61 0 p1 <| kR 2 <| eX 64 .i64 g1 (p1) 16 <| eE M 65 0 p1 <| kR 2 <| eX 68 .i64 g1 (p1) 16 <| kl_nil fun u13 M => ZP32 M 0 p1 (vo (vl ((e5 v p0 p1 p2 p3) p1) 12) (sr ((e5 v p0 p1 p2 p3) p1) 20)) fun u14 M => nT <| wp_seq <| rg_tail M 9 (by kernel_rfl) (by kernel_rfl) ?_
 simp only [List.take_succ_cons, List.take_zero]
 refine kR 2 <| eX 71 .i64 g1 (p0) 16 <| eE M 72 0 p0 <| kR 1 <| eX 74 .i64 g1 (p1) 16 <| eE M 75 0 p1 <| kR 1 <| eX 77 .i64 g1 (p0) 16 <| kl_nil fun u15 M => ZP32 M 0 p0 (va ((e6 v p0 p1 p2 p3) p0) ((e6 v p0 p1 p2 p3) p1)) fun u16 M => nT <| wp_seq <| rg_tail M 9 (by kernel_rfl) (by kernel_rfl) ?_
 simp only [List.take_succ_cons, List.take_zero]
 refine kR 2 <| eX 80 .i64 g1 (p3) 16 <| eE M 81 0 p3 <| kR 1 <| eX 83 .i64 g1 (p0) 16 <| eE M 84 0 p0 <| kR 1 <| eX 86 .i64 g1 (p3) 16 <| kl_nil fun u17 M => ZP32 M 0 p3 (vx ((e7 v p0 p1 p2 p3) p3) ((e7 v p0 p1 p2 p3) p0)) fun u18 M => nT <| wp_seq <| rg_tail M 11 (by kernel_rfl) (by kernel_rfl) ?_
 simp only [List.take_succ_cons, List.take_zero]
 refine kR 2 <| eX 89 .i64 g1 (p3) 16 <| eE M 90 0 p3 <| kR 2 <| eX 93 .i64 g1 (p3) 16 <| eE M 94 0 p3 <| kR 2 <| eX 97 .i64 g1 (p3) 16 <| kl_nil fun u19 M => ZP32 M 0 p3 (vo (vl ((e8 v p0 p1 p2 p3) p3) 8) (sr ((e8 v p0 p1 p2 p3) p3) 24)) fun u20 M => nT <| wp_seq <| rg_tail M 9 (by kernel_rfl) (by kernel_rfl) ?_
 simp only [List.take_succ_cons, List.take_zero]
 refine kR 2 <| eX 100 .i64 g1 (p2) 16 <| eE M 101 0 p2 <| kR 1 <| eX 103 .i64 g1 (p3) 16 <| eE M 104 0 p3 <| kR 1 <| eX 106 .i64 g1 (p2) 16 <| kl_nil fun u21 M => ZP32 M 0 p2 (va ((e9 v p0 p1 p2 p3) p2) ((e9 v p0 p1 p2 p3) p3)) fun u22 M => nT <| wp_seq <| rg_tail M 9 (by kernel_rfl) (by kernel_rfl) ?_
 simp only [List.take_succ_cons, List.take_zero]
 refine kR 2 <| eX 109 .i64 g1 (p1) 16 <| eE M 110 0 p1 <| kR 1 <| eX 112 .i64 g1 (p2) 16 <| eE M 113 0 p2 <| kR 1 <| eX 115 .i64 g1 (p1) 16 <| kl_nil fun u23 M => ZP32 M 0 p1 (vx ((e10 v p0 p1 p2 p3) p1) ((e10 v p0 p1 p2 p3) p2)) fun u24 M => nT <| wp_seq <| rg_tail M 11 (by kernel_rfl) (by kernel_rfl) ?_
 simp only [List.take_succ_cons, List.take_zero]
 refine kR 2 <| eX 118 .i64 g1 (p1) 16 <| eE M 119 0 p1 <| kR 2 <| eX 122 .i64 g1 (p1) 16 <| eE M 123 0 p1 <| kR 2 <| eX 126 .i64 g1 (p1) 16 <| kl_nil fun u25 M => ZP32 M 0 p1 (vo (vl ((e11 v p0 p1 p2 p3) p1) 7) (sr ((e11 v p0 p1 p2 p3) p1) 25)) fun u26 M => nT <| sR <| pA M 127 0 16 (w32 (e12 v p0 p1 p2 p3)) <| ZG M 1 16 (w32 (e12 v p0 p1 p2 p3)) fun u27 M => nT <| wp_ret ?_
 refine bodyPost_ret (v := .agg (av 16 (w32 (mxF v p0 p1 p2 p3)))) (Eq.trans (b := .ok (.agg (av 16 (w32 (e12 v p0 p1 p2 p3)))) _) (results_cell_row Tryz.results83 _ _ g2 131 (av 16 (w32 (e12 v p0 p1 p2 p3))) (0, 0) _ (by kernel_rfl) (M.get 1 rfl) Tryz.underlying131 rfl (by rw [av_size]; exact inz131)) (by rw [e12_eq v p0 p1 p2 p3 d0 d1 d2 d3 d4 d5])) (by kernel_rfl) ⟨rfl, below_grown M.old⟩
def nb (n : Int) : Nat → Int
 | 0 => cv .u8 n
 | 1 => cv .u8 (sr n 8)
 | 2 => cv .u8 (sr n 16)
 | 3 => cv .u8 (sr n 24)
 | _ => 0
theorem cv8_nn (x : Int) : 0 ≤ cv .u8 x ∧ cv .u8 x < 256 := by
 unfold cv
 simp [IntKind.wrap, IntKind.signed, IntKind.bits]
 omega
theorem nb_nn (n : Int) : ∀ x ∈ (List.range 4).map (nb n), 0 ≤ x ∧ x < 256 := fun x hx => by
 obtain ⟨i, hi, rfl⟩ := List.mem_map.1 hx
 have hi := List.mem_range.1 hi
 rcases i with _ | _ | _ | _ | i
 ·exact cv8_nn _
 ·exact cv8_nn _
 ·exact cv8_nn _
 ·exact cv8_nn _
 ·omega
def nB (n : Int) : ByteArray := bs ((List.range 4).map (nb n))
theorem nB_size (n : Int) : (nB n).size = 4 := by
 unfold nB
 rw [bs_size]
 rfl
def alS (key nonce : Yb) (n : Int) : ByteArray := strK ++ key ++ nB n ++ nonce
theorem strK_size : strK.size = 16 := rfl
theorem alS_size (key nonce : Yb) (n : Int) (hk : key.size = 32) (hn : nonce.size = 12) : (alS key nonce n).size = 64 := by
 unfold alS
 rw [ByteArray.size_append, ByteArray.size_append, ByteArray.size_append, nB_size, strK_size, hk, hn]
def dx (al : Yb) : Nat → (Nat → Int)
 | 0 => fun _ => 0
 | j + 1 => upd (dx al j) j (wd4 (al.extract (4 * j) (4 * j + 4)))
def dk (x : NI) : Nat → (Nat → Int)
 | 0 => fun _ => 0
 | j + 1 => upd (dk x j) j (cv .u8 (sr (va (x (j / 4)) (rd x 10 (j / 4))) (8 * (j % 4))))
def dbl (x : NI) (i : Nat) : Int := cv .u8 (sr (va (x (i / 4)) (rd x 10 (i / 4))) (8 * (i % 4)))
theorem dk_at (x : NI) : ∀ n, ∀ i, i < n → dk x n i = dbl x i
 | 0, i, h => absurd h (by omega)
 | n + 1, i, h => by
  unfold dk upd
  by_cases e : i = n
  ·rw [if_pos e, e]
   rfl
  ·rw [if_neg e, dk_at x n i (by omega)]
theorem dk_map (x : NI) : (List.range 64).map (dk x 64) = (List.range 64).map (dbl x) := List.map_congr_left fun i hi => dk_at x 64 i (List.mem_range.1 hi)
theorem dbl_nn (x : NI) : ∀ y ∈ (List.range 64).map (dbl x), 0 ≤ y ∧ y < 256 := fun y hy => by
 obtain ⟨i, _, rfl⟩ := List.mem_map.1 hy
 exact cv8_nn _
def dbk (key nonce : Yb) (n : Int) : ByteArray := bs ((List.range 64).map (dbl (dx (alS key nonce n) 16)))
theorem dbk_size (key nonce : Yb) (n : Int) : (dbk key nonce n).size = 64 := by
 unfold dbk
 rw [bs_size]
 simp
theorem d_Block (key nonce : Yb) (n : Int) (hk : key.size = 32) (hn : nonce.size = 12) (w : World) (hL : Laid w)  : Cs 52 #[.string key, .string nonce, .int .u32 n] w (.string (dbk key nonce n)) := by
 go_enter Tryz.func52, Tryz.ntmps52
 have M := Mem.start hL
 refine sq <| sR <| rV 1 <| pH 15 (.string (strK ++ key)) (run_cat 9 9 _ _ rfl strK key (by kernel_rfl) (by kernel_rfl) (by rw [strK_size, hk]; decide)) <| rV 11 <| ZM M 27 (fun g1 => .slice (some ⟨g1, 0, none⟩) 4 4) (.cells (av 4 (w8 (nb n))) 5) fun g1 u1 M => pl_back M (want_no rfl) (some 28) rfl _ rfl 0 g1 4 4 (by kernel_rfl) _ rfl ((List.range 4).map (nb n)) 4 (sb_av 4 _ _) (by simp) (nb_nn _) <| pH 29 (.string (strK ++ key ++ nB n)) (run_cat 9 9 _ _ rfl (strK ++ key) (nB n) (by kernel_rfl) (by kernel_rfl) (by rw [ByteArray.size_append, strK_size, hk, nB_size]; decide)) <| rV 1 <| pH 31 (.string (alS key nonce n)) (run_cat 9 9 _ _ rfl (strK ++ key ++ nB n) nonce (by kernel_rfl) (by kernel_rfl) (by rw [ByteArray.size_append, ByteArray.size_append, strK_size, hk, nB_size, hn]; decide)) <| rV 1 <| nT <| sR <| pN M 8 (.cells (av 16 (w32 (fun _ => 0))) 131) fun g2 u2 M => nT <| wp_seq ?_
 refine sq <| wp_block ?_
 refine au_loop (fun j a w' => ∃ v1 : NV, a = (fm ([.string key, .string nonce, .int .u32 n] ++ vr v1 3 3 ++ [.string ⟨#[]⟩, .string (alS key nonce n), .pointer (some ⟨g2, 0, none⟩), .int .i64 (j : Int)] ++ vr v1 10 82)) ∧ Mem ⟨w, []⟩ [⟨g1, .cells (av 4 (w8 (nb n))) 5⟩, ⟨g2, .cells (av 16 (w32 (dx (alS key nonce n) j))) 131⟩] w') 16 (exS M) ?_ ?_
 ·intro j a u0 hj hI
  obtain ⟨v1, rfl, M⟩ := hI
  refine wp_seq <| sR <| rV 1 <| ZT 33 ((j : Int) < 16) <| nT <| cT <| wp_skip <| au_then <| wp_seq <| wp_block <| rg_lit <| rV 3 <| ZI 39 (4 * (j : Int)) ((4 * j : Nat) : Int) <| rV 1 <| ZI 41 (4 * (j : Int)) ((4 * j : Nat) : Int) <| ZI 42 (((4 * j : Nat) : Int) + 4) ((4 * j + 4 : Nat) : Int) ?_
  refine pH 43 (.string ((alS key nonce n).extract (4 * j) (4 * j + 4))) (run_strlh 9 Tryz.underlying9 _ _ _ rfl (alS key nonce n) (by kernel_rfl) .i64 .i64 (4 * j) (4 * j + 4) (by kernel_rfl) (by kernel_rfl) (by omega) (by rw [alS_size key nonce n hk hn]; omega)) <| pC M 44 82 #[.string ((alS key nonce n).extract (4 * j) (4 * j + 4))] (.int .u32 (wd4 ((alS key nonce n).extract (4 * j) (4 * j + 4)))) (fun w M => d_word _ (by rw [ByteArray.size_extract, alS_size key nonce n hk hn]; omega) w M.laid) fun u3 M => ZX 45 .i64 g2 (j) 16 <| ZP32 M 1 j (wd4 ((alS key nonce n).extract (4 * j) (4 * j + 4))) fun u4 M => pl_nil <| au_block <| au_then <| rg_lit <| rV 1 <| ZI 35 ((j : Int) + 1) ((j + 1 : Nat) : Int) <| rV 1 <| nT ?_
  exact exS M
 ·intro a u0 hI
  obtain ⟨v1, rfl, M⟩ := hI
  refine wp_seq <| sR <| rV 1 <| ZF 33 (16 < 16) <| nT <| cF <| wp_exit <| au_then_exit <| au_then_exit <| au_block_exit <| au_then <| sR <| pA M 46 1 16 (w32 (dx (alS key nonce n) 16)) <| pN M 10 (.cells (av 16 (w32 (fun _ => 0))) 131) fun g3 u5 M => ZG M 2 16 (w32 (dx (alS key nonce n) 16)) fun u6 M => nT ?_
  refine wp_seq <| sq <| wp_block ?_
  refine au_loop (fun j a w' => ∃ v2 : NV, a = (fm ([.string key, .string nonce, .int .u32 n] ++ vr v2 3 3 ++ [.string ⟨#[]⟩, .string (alS key nonce n), .pointer (some ⟨g2, 0, none⟩), .int .i64 (16 : Int), .pointer (some ⟨g3, 0, none⟩), .int .i64 (j : Int)] ++ vr v2 12 80)) ∧ Mem ⟨w, []⟩ [⟨g1, .cells (av 4 (w8 (nb n))) 5⟩, ⟨g2, .cells (av 16 (w32 (dx (alS key nonce n) 16))) 131⟩, ⟨g3, .cells (av 16 (w32 (rd (dx (alS key nonce n) 16) j))) 131⟩] w') 10 (exS M) ?_ ?_
  ·intro j a u0 hj hI
   obtain ⟨v2, rfl, M⟩ := hI
   refine wp_seq <| sR <| rV 1 <| ZT 48 ((j : Int) < 10) <| nT <| cT <| wp_skip <| au_then <| wp_seq <| wp_block <| sR <| pA M 51 2 16 (w32 (rd (dx (alS key nonce n) 16) j)) <| ZC M 52 (fun w M => d_quarter (rd (dx (alS key nonce n) 16) j) 0 4 8 12 (by decide) (by decide) (by decide) (by decide) (by decide) (by decide) (by decide) (by decide) (by decide) (by decide) w M.laid) fun u7 M => ZG M 2 16 (w32 (rn1 (rd (dx (alS key nonce n) 16) j))) fun u8 M => nT <| sR ?_
   refine pA M 53 2 16 (w32 (rn1 (rd (dx (alS key nonce n) 16) j))) <| ZC M 54 (fun w M => d_quarter (rn1 (rd (dx (alS key nonce n) 16) j)) 1 5 9 13 (by decide) (by decide) (by decide) (by decide) (by decide) (by decide) (by decide) (by decide) (by decide) (by decide) w M.laid) fun u9 M => ZG M 2 16 (w32 (rn2 (rd (dx (alS key nonce n) 16) j))) fun u10 M => nT <| sR <| pA M 55 2 16 (w32 (rn2 (rd (dx (alS key nonce n) 16) j))) <| ZC M 56 (fun w M => d_quarter (rn2 (rd (dx (alS key nonce n) 16) j)) 2 6 10 14 (by decide) (by decide) (by decide) (by decide) (by decide) (by decide) (by decide) (by decide) (by decide) (by decide) w M.laid) fun u11 M => ZG M 2 16 (w32 (rn3 (rd (dx (alS key nonce n) 16) j))) fun u12 M => nT <| sR <| pA M 57 2 16 (w32 (rn3 (rd (dx (alS key nonce n) 16) j))) <| ZC M 58 (fun w M => d_quarter (rn3 (rd (dx (alS key nonce n) 16) j)) 3 7 11 15 (by decide) (by decide) (by decide) (by decide) (by decide) (by decide) (by decide) (by decide) (by decide) (by decide) w M.laid) fun u13 M => ZG M 2 16 (w32 (rn4 (rd (dx (alS key nonce n) 16) j))) fun u14 M => nT <| sR <| pA M 59 2 16 (w32 (rn4 (rd (dx (alS key nonce n) 16) j))) ?_
   refine ZC M 60 (fun w M => d_quarter (rn4 (rd (dx (alS key nonce n) 16) j)) 0 5 10 15 (by decide) (by decide) (by decide) (by decide) (by decide) (by decide) (by decide) (by decide) (by decide) (by decide) w M.laid) fun u15 M => ZG M 2 16 (w32 (rn5 (rd (dx (alS key nonce n) 16) j))) fun u16 M => nT <| sR <| pA M 61 2 16 (w32 (rn5 (rd (dx (alS key nonce n) 16) j))) <| ZC M 62 (fun w M => d_quarter (rn5 (rd (dx (alS key nonce n) 16) j)) 1 6 11 12 (by decide) (by decide) (by decide) (by decide) (by decide) (by decide) (by decide) (by decide) (by decide) (by decide) w M.laid) fun u17 M => ZG M 2 16 (w32 (rn6 (rd (dx (alS key nonce n) 16) j))) fun u18 M => nT <| sR <| pA M 63 2 16 (w32 (rn6 (rd (dx (alS key nonce n) 16) j))) <| ZC M 64 (fun w M => d_quarter (rn6 (rd (dx (alS key nonce n) 16) j)) 2 7 8 13 (by decide) (by decide) (by decide) (by decide) (by decide) (by decide) (by decide) (by decide) (by decide) (by decide) w M.laid) fun u19 M => ZG M 2 16 (w32 (rn7 (rd (dx (alS key nonce n) 16) j))) fun u20 M => nT <| rg_lit <| pA M 65 2 16 (w32 (rn7 (rd (dx (alS key nonce n) 16) j))) <| ZC M 66 (fun w M => d_quarter (rn7 (rd (dx (alS key nonce n) 16) j)) 3 4 9 14 (by decide) (by decide) (by decide) (by decide) (by decide) (by decide) (by decide) (by decide) (by decide) (by decide) w M.laid) fun u21 M => ?_
   refine ZG M 2 16 (w32 (rn8 (rd (dx (alS key nonce n) 16) j))) fun u22 M => pl_nil <| au_block <| au_then <| rg_lit <| rV 1 <| ZI 50 ((j : Int) + 1) ((j + 1 : Nat) : Int) <| rV 1 <| nT ?_
   exact exS M
  ·intro a u0 hI
   obtain ⟨v2, rfl, M⟩ := hI
   refine wp_seq <| sR <| rV 1 <| ZF 48 (10 < 10) <| nT <| cF <| wp_exit <| au_then_exit <| au_then_exit <| au_block_exit <| au_then <| sR <| ZM M 67 (fun g4 => .slice (some ⟨g4, 0, none⟩) 64 64) (.cells (av 64 (w8 (dk (dx (alS key nonce n) 16) 0))) 5) fun g4 u23 M => rV 1 <| nT <| wp_seq ?_
   refine sq <| wp_block ?_
   refine au_loop (fun j a w' => ∃ v3 : NV, a = (fm ([.string key, .string nonce, .int .u32 n] ++ vr v3 3 3 ++ [.string ⟨#[]⟩, .string (alS key nonce n), .pointer (some ⟨g2, 0, none⟩), .int .i64 (16 : Int), .pointer (some ⟨g3, 0, none⟩), .int .i64 (10 : Int), .slice (some ⟨g4, 0, none⟩) 64 64, .int .i64 (j : Int)] ++ vr v3 14 78)) ∧ Mem ⟨w, []⟩ [⟨g1, .cells (av 4 (w8 (nb n))) 5⟩, ⟨g2, .cells (av 16 (w32 (dx (alS key nonce n) 16))) 131⟩, ⟨g3, .cells (av 16 (w32 (rd (dx (alS key nonce n) 16) 10))) 131⟩, ⟨g4, .cells (av 64 (w8 (dk (dx (alS key nonce n) 16) j))) 5⟩] w') 64 (exS M) ?_ ?_
   ·intro j a u0 hj hI
    obtain ⟨v3, rfl, M⟩ := hI
    refine wp_seq <| sR <| rV 1 <| ZT 69 ((j : Int) < 64) <| nT <| cT <| wp_skip <| au_then <| wp_seq <| wp_block <| rg_tail M 18 (by kernel_rfl) (by kernel_rfl) ?_
    simp only [List.take_succ_cons, List.take_zero]
    refine kR 3 <| eQ 75 .i64 (IntKind.wrap .i64 ((j : Int).tdiv 4)) (quo4 j (by omega)) <| eX 76 .i64 g2 ((j / 4 : Nat)) 16 <| eE M 77 1 ((j / 4 : Nat)) <| kR 1 <| eQ 79 .i64 (IntKind.wrap .i64 ((j : Int).tdiv 4)) (quo4 j (by omega)) <| eX 80 .i64 g3 ((j / 4 : Nat)) 16 <| eE M 81 2 ((j / 4 : Nat)) <| kR 2 <| eQ 84 .i64 (Int.tmod (j : Int) 4) (rem4 j) <| eI 85 (8 * ((j % 4 : Nat) : Int)) ((8 * (j % 4) : Nat) : Int) <| eQ 86 .u64 (cv .u64 ((8 * (j % 4) : Nat) : Int)) (cvu64 _ (by omega)) <| kH 87 (.int .u32 (sr (va ((dx (alS key nonce n) 16) (j / 4)) (rd (dx (alS key nonce n) 16) 10 (j / 4))) (8 * (j % 4)))) (run_shrV 84 106 _ _ rfl _ .u64 (8 * (j % 4)) (by kernel_rfl) (by kernel_rfl) (by omega)) <| kR 1 <| kH 89 (.pointer (some ⟨g4, j, none⟩)) (run_ix0 44 5 Tryz.underlying44 inz5 _ _ rfl g4 64 64 (by kernel_rfl) .i64 j (by kernel_rfl) hj) <| kl_nil fun u24 M => ?_
    refine ZP8 M 3 j (cv .u8 (sr (va ((dx (alS key nonce n) 16) (j / 4)) (rd (dx (alS key nonce n) 16) 10 (j / 4))) (8 * (j % 4)))) fun u25 M => pl_nil <| au_block <| au_then <| rg_lit <| rV 1 <| ZI 71 ((j : Int) + 1) ((j + 1 : Nat) : Int) <| rV 1 <| nT ?_
    exact exS M
   ·intro a u0 hI
    obtain ⟨v3, rfl, M⟩ := hI
    refine wp_seq <| sR <| rV 1 <| ZF 69 (64 < 64) <| nT <| cF <| wp_exit <| au_then_exit <| au_then_exit <| au_block_exit <| au_then <| sR <| rV 1 <| pl_back M (want_no rfl) (some 91) rfl _ rfl 3 g4 64 64 (by kernel_rfl) _ rfl ((List.range 64).map (dk (dx (alS key nonce n) 16) 64)) 64 (sb_av 64 _ _) (by simp) (by rw [dk_map]; exact dbl_nn _) ?_
    rw [dk_map]
    refine rV 1 <| nT <| wp_ret ?_
    exact b1 M
open Go.RowKit
def dob (key nonce : Yb) (n : Int) (s : Yb) (i : Nat) : Int := xb (bt s i) (bt (dbk key nonce (va n ((i / 64 : Nat) : Int))) (i % 64))
def dl (s : Yb) (g : NI) (j : Nat) : List Int := (List.range s.size).map fun i => if i < j then g i else bt s i
theorem dl_length (s : Yb) (g : NI) (j : Nat) : (dl s g j).length = s.size := by simp [dl]
theorem dl_zero (s : Yb) (g : NI) : sb s = dl s g 0 := by
 refine List.ext_getElem? fun i => ?_
 by_cases h : i < s.size
 ·rw [sb_get s i h]
  simp [dl, h]
 ·rw [List.getElem?_eq_none (by rw [sb_length]; omega), List.getElem?_eq_none (by rw [dl_length]; omega)]
theorem dl_get (s : Yb) (g : NI) (j : Nat) (h : j < s.size) : (vs8 (dl s g j))[j]? = some (.int .u8 (bt s j)) := by
 simp [vs8, dl, h]
theorem dl_set (s : Yb) (g : NI) (j : Nat) (h : j < s.size) : (vs8 (dl s g j)).set j (.int .u8 (g j)) = vs8 (dl s g (j + 1)) := by
 refine List.ext_getElem? fun i => ?_
 rw [List.getElem?_set]
 by_cases e : j = i
 ·subst e
  rw [if_pos rfl, if_pos (by rw [vs8_length, dl_length]; exact h)]
  simp [vs8, dl, h]
 ·rw [if_neg e]
  by_cases hi : i < s.size
  ·simp only [vs8, dl, List.map_map, List.getElem?_map, List.getElem?_range hi]
   simp only [Option.map_some, Function.comp]
   by_cases h2 : i < j
   ·rw [if_pos h2, if_pos (by omega)]
   ·rw [if_neg h2, if_neg (by omega)]
  ·rw [List.getElem?_eq_none (by rw [vs8_length, dl_length]; omega), List.getElem?_eq_none (by rw [vs8_length, dl_length]; omega)]
theorem dl_full (s : Yb) (g : NI) : dl s g s.size = (List.range s.size).map g := List.map_congr_left fun _ hi => if_pos (List.mem_range.1 hi)
def dT (key nonce : Yb) (n : Int) (s : Yb) : ByteArray := bs ((List.range s.size).map (dob key nonce n s))
theorem dob_nn (key nonce : Yb) (n : Int) (s : Yb) : ∀ x ∈ (List.range s.size).map (dob key nonce n s), 0 ≤ x ∧ x < 256 := fun x hx => by
 obtain ⟨i, _, rfl⟩ := List.mem_map.1 hx
 exact xb_nn _ _
def kS (key nonce : Yb) (n : Int) : Nat → ByteArray
 | 0 => strE
 | j + 1 => dbk key nonce (va n ((j / 64 : Nat) : Int))
theorem kS_at (key nonce : Yb) (n : Int) (j : Nat) (h : j % 64 ≠ 0) : kS key nonce n j = dbk key nonce (va n ((j / 64 : Nat) : Int)) := by
 rcases j with _ | j
 ·exact absurd rfl h
 ·show dbk key nonce (va n ((j / 64 : Nat) : Int)) = _
  rw [show (j + 1) / 64 = j / 64 by omega]
theorem cvu32 (n : Nat) (h : n < 4294967296) : cv .u32 (n : Int) = (n : Int) := wrap32_nat n h
theorem d_TurnA (key nonce : Yb) (n : Nat) (hn : n < 4294967296) (s : Yb) (hz : s.size ≤ 200000) (hm : (key.size = 32 ∧ nonce.size = 12)) (hl : ¬ (4294967296 < n + (s.size + 63) / 64)) (w : World) (hL : Laid w)  : Cs 28 #[.string key, .string nonce, .int .u32 (n : Int), .string s] w (.tuple #[.string (dT key nonce (n : Int) s), .int .i64 0]) := by
 go_enter Tryz.func28, Tryz.ntmps28
 have M := Mem.start hL
 refine sq <| wp_seq <| sR <| rV 2 <| pC M 16 26 #[.string key, .string nonce] (.bool true) (fun w M => (by rw [← decide_eq_true hm]; exact d_may key nonce w M.laid)) fun u1 M => rV 1 <| nT <| cF <| wp_skip <| au_then <| sR <| rV 2 <| ZI 20 ((s.size : Int) + 63) ((s.size + 63 : Nat) : Int) <| ZQ 21 .u64 (cv .u64 ((s.size + 63 : Nat) : Int)) (cvu64 _ (by omega)) <| ZQ 22 .u64 (IntKind.wrap .u64 (((s.size + 63 : Nat) : Int).tdiv 64)) (quoU _ (by omega)) <| rV 1 ?_
 refine nT <| wp_seq <| sR <| rV 1 <| ZQ 24 .u64 (cv .u64 (n : Int)) (cvu64 _ (by omega)) <| rV 1 <| zJ 26 (.int .u64 ((n + (s.size + 63) / 64 : Nat) : Int)) (.int .u64 (IntKind.wrap .u64 ((n : Int) + (((s.size + 63) / 64 : Nat) : Int)))) (by rw [show (n : Int) + (((s.size + 63) / 64 : Nat) : Int) = ((n + (s.size + 63) / 64 : Nat) : Int) by omega, wu64 _ (by omega)]) <| ZF 27 ((4294967296 : Int) < ((n + (s.size + 63) / 64 : Nat) : Int)) <| nT <| cF <| wp_skip <| au_then <| sR <| rV 1 <| pl_conv M (want_no rfl) (some 29) rfl _ rfl s (by kernel_rfl) ?_
 intro gq capq Zq u2 hZq M
 rw [dl_zero s (dob key nonce (n : Int) s)] at hZq
 refine rV 1 <| nT <| sq <| wp_seq <| sq <| wp_block ?_
 refine au_loop (fun j a u => ∃ (v1 : NV) (Zq : Obj), a = (fm ([.string key, .string nonce, .int .u32 (n : Int), .string s] ++ und 4 ++ [.string ⟨#[]⟩, .int .i64 0, .int .u64 (((s.size + 63) / 64 : Nat) : Int), .slice (some ⟨gq, 0, none⟩) s.size capq, .string (kS key nonce (n : Int) j), .int .i64 (j : Int), .string key, .string nonce, .bool true, .bool false, .string s, .int .i64 (s.size : Int), .int .i64 ((s.size + 63 : Nat) : Int), .int .u64 ((s.size + 63 : Nat) : Int), .int .u64 (((s.size + 63) / 64 : Nat) : Int), .int .u32 (n : Int), .int .u64 (n : Int), .int .u64 (((s.size + 63) / 64 : Nat) : Int), .int .u64 ((n + (s.size + 63) / 64 : Nat) : Int), .bool false, .string s, .slice (some ⟨gq, 0, none⟩) s.size capq] ++ vr v1 30 29 ++ [undef, undef])) ∧ SB Zq capq (vs8 (dl s (dob key nonce (n : Int) s) j)) ∧ Mem ⟨w, []⟩ [⟨gq, Zq⟩] u) s.size (exS2 Zq ⟨hZq, M⟩) ?_ ?_
 ·intro j a u0 hj hI
  clear M hZq
  obtain ⟨v1, Zq, rfl, hZq, M⟩ := hI
  by_cases h64 : j % 64 = 0
  ·refine wp_seq <| sR <| rV 3 <| ZT 33 ((j : Int) < ((s.size : Nat) : Int)) <| nT <| cT <| wp_skip <| au_then <| wp_seq <| wp_block <| wp_seq <| sR <| rV 1 <| ZQ 37 .i64 (Int.tmod (j : Int) 64) (rem64 j) <| ZT 38 (((j % 64 : Nat) : Int) = 0) <| nT ?_
   refine cT <| rg_lit <| rV 4 <| ZQ 43 .i64 (IntKind.wrap .i64 ((j : Int).tdiv 64)) (quo64 j (by omega)) <| zJ 44 (.int .u32 ((j / 64 : Nat) : Int)) (.int .u32 (cv .u32 ((j / 64 : Nat) : Int))) (by rw [cvu32 _ (by omega)]) <| rV 1 <| pC M 46 52 #[.string key, .string nonce, .int .u32 (va (n : Int) ((j / 64 : Nat) : Int))] (.string (dbk key nonce (va (n : Int) ((j / 64 : Nat) : Int)))) (fun w M => d_Block key nonce _ hm.1 hm.2 w M.laid) fun u3 M => rV 1 <| nT <| rgh M [⟨gq, Zq⟩] 12 fun u4 M => qV M 0 47 (.slice (some ⟨gq, 0, none⟩) s.size capq) <| qV M 1 48 (.int .i64 (j : Int)) <| qV M 2 49 (.slice (some ⟨gq, 0, none⟩) s.size capq) <| qV M 3 50 (.int .i64 (j : Int)) <| qH M 4 51 (.pointer (some ⟨gq, j, none⟩)) (fun w _ => (run_ix0 44 5 Tryz.underlying44 inz5 _ _ rfl gq s.size capq (by kernel_rfl) .i64 j (by kernel_rfl) hj) w) <| qC M 5 52 gq j (.int .u8 (bt s j)) (fun w M => hZq.cell (M.get 0 rfl) (dl_get s (dob key nonce (n : Int) s) j hj)) ?_
   refine qV M 6 53 (.string (dbk key nonce (va (n : Int) ((j / 64 : Nat) : Int)))) <| qV M 7 54 (.int .i64 (j : Int)) <| qH M 8 55 (.int .i64 ((j % 64 : Nat) : Int)) (fun w _ => (fun w => Eq.trans (b := .ok (.value (.int .i64 (Int.tmod (j : Int) 64))) w) (by kernel_rfl) (by rw [rem64 j])) w) <| qH M 9 56 (.int .u8 (bt (dbk key nonce (va (n : Int) ((j / 64 : Nat) : Int))) (j % 64))) (fun w _ => (run_ixS 9 Tryz.underlying9 _ _ rfl (dbk key nonce (va (n : Int) ((j / 64 : Nat) : Int))) (by kernel_rfl) .i64 (j % 64) (by kernel_rfl) (by rw [dbk_size]; omega)) w) <| qH M 10 57 (.int .u8 (dob key nonce (n : Int) s j)) (fun w _ => (fun w => Eq.trans (b := .ok (.value (.int .u8 (xb (bt s j) (bt (dbk key nonce (va (n : Int) ((j / 64 : Nat) : Int))) (j % 64))))) w) (by kernel_rfl) (by unfold dob; rfl)) w) <| qH M 11 58 (.pointer (some ⟨gq, j, none⟩)) (fun w _ => (run_ix0 44 5 Tryz.underlying44 inz5 _ _ rfl gq s.size capq (by kernel_rfl) .i64 j (by kernel_rfl) hj) w) <| qZ ?_
   refine pl_putS M (want_no rfl) rfl 5 _ _ rfl 0 gq j (by kernel_rfl) Zq rfl capq _ hZq (by rw [vs8_length, dl_length]; exact hj) (.int .u8 (dob key nonce (n : Int) s j)) (by kernel_rfl) inz5 rfl rfl ?_
   intro Zp u5 hZp M
   rw [dl_set s (dob key nonce (n : Int) s) j hj] at hZp
   refine nT <| au_block <| au_then <| rg_lit <| rV 1 <| ZI 35 ((j : Int) + 1) ((j + 1 : Nat) : Int) <| rV 1 <| nT ?_
   exact exS2 Zp ⟨hZp, M⟩
  ·rw [kS_at key nonce (n : Int) j h64]
   refine wp_seq <| sR <| rV 3 <| ZT 33 ((j : Int) < ((s.size : Nat) : Int)) <| nT <| cT <| wp_skip <| au_then <| wp_seq <| wp_block <| wp_seq <| sR <| rV 1 <| ZQ 37 .i64 (Int.tmod (j : Int) 64) (rem64 j) <| ZF 38 (((j % 64 : Nat) : Int) = 0) <| nT ?_
   refine cF <| wp_skip <| au_then <| rgh M [⟨gq, Zq⟩] 12 fun u6 M => qV M 0 47 (.slice (some ⟨gq, 0, none⟩) s.size capq) <| qV M 1 48 (.int .i64 (j : Int)) <| qV M 2 49 (.slice (some ⟨gq, 0, none⟩) s.size capq) <| qV M 3 50 (.int .i64 (j : Int)) <| qH M 4 51 (.pointer (some ⟨gq, j, none⟩)) (fun w _ => (run_ix0 44 5 Tryz.underlying44 inz5 _ _ rfl gq s.size capq (by kernel_rfl) .i64 j (by kernel_rfl) hj) w) <| qC M 5 52 gq j (.int .u8 (bt s j)) (fun w M => hZq.cell (M.get 0 rfl) (dl_get s (dob key nonce (n : Int) s) j hj)) <| qV M 6 53 (.string (dbk key nonce (va (n : Int) ((j / 64 : Nat) : Int)))) <| qV M 7 54 (.int .i64 (j : Int)) <| qH M 8 55 (.int .i64 ((j % 64 : Nat) : Int)) (fun w _ => (fun w => Eq.trans (b := .ok (.value (.int .i64 (Int.tmod (j : Int) 64))) w) (by kernel_rfl) (by rw [rem64 j])) w) <| qH M 9 56 (.int .u8 (bt (dbk key nonce (va (n : Int) ((j / 64 : Nat) : Int))) (j % 64))) (fun w _ => (run_ixS 9 Tryz.underlying9 _ _ rfl (dbk key nonce (va (n : Int) ((j / 64 : Nat) : Int))) (by kernel_rfl) .i64 (j % 64) (by kernel_rfl) (by rw [dbk_size]; omega)) w) <| qH M 10 57 (.int .u8 (dob key nonce (n : Int) s j)) (fun w _ => (fun w => Eq.trans (b := .ok (.value (.int .u8 (xb (bt s j) (bt (dbk key nonce (va (n : Int) ((j / 64 : Nat) : Int))) (j % 64))))) w) (by kernel_rfl) (by unfold dob; rfl)) w) <| qH M 11 58 (.pointer (some ⟨gq, j, none⟩)) (fun w _ => (run_ix0 44 5 Tryz.underlying44 inz5 _ _ rfl gq s.size capq (by kernel_rfl) .i64 j (by kernel_rfl) hj) w) ?_
   refine qZ ?_
   refine pl_putS M (want_no rfl) rfl 5 _ _ rfl 0 gq j (by kernel_rfl) Zq rfl capq _ hZq (by rw [vs8_length, dl_length]; exact hj) (.int .u8 (dob key nonce (n : Int) s j)) (by kernel_rfl) inz5 rfl rfl ?_
   intro Zp u7 hZp M
   rw [dl_set s (dob key nonce (n : Int) s) j hj] at hZp
   refine nT <| au_block <| au_then <| rg_lit <| rV 1 <| ZI 35 ((j : Int) + 1) ((j + 1 : Nat) : Int) <| rV 1 <| nT ?_
   exact exS2 Zp ⟨hZp, M⟩
 ·intro a u0 hI
  clear M hZq
  obtain ⟨v1, Zq, rfl, hZq, M⟩ := hI
  refine wp_seq <| sR <| rV 3 <| ZF 33 ((s.size : Int) < ((s.size : Nat) : Int)) <| nT <| cF <| wp_exit <| au_then_exit <| au_then_exit <| au_block_exit <| au_then <| sR <| rV 1 <| pl_back M (want_no rfl) (some 60) rfl _ rfl 0 gq s.size capq (by kernel_rfl) _ rfl (dl s (dob key nonce (n : Int) s) s.size) capq hZq (dl_length _ _ _) (by rw [dl_full]; exact dob_nn _ _ _ _) ?_
  rw [dl_full]
  refine rV 2 <| nT <| wp_ret ?_
  exact b1 M
open Go.RowKit
theorem cv32 (c : Int) (h0 : 0 ≤ c) (h1 : c < 256) : cv .u32 c = c := by
 unfold cv
 obtain ⟨n, rfl⟩ : ∃ n : Nat, c = (n : Int) := ⟨c.toNat, by omega⟩
 exact wrap32_nat n (by omega)
theorem vl_nat (x k : Nat) (h : x * 2 ^ k < 4294967296) : vl (x : Int) k = ((x * 2 ^ k : Nat) : Int) := by
 unfold vl
 rw [← wrap32_nat _ h]
 congr 1
theorem vo_nat (x y : Nat) (hx : x < 4294967296) (hy : y < 4294967296) : vo (x : Int) (y : Int) = ((x ||| y : Nat) : Int) := by
 unfold vo
 have h1 : BitVec.ofInt 32 (x : Int) = BitVec.ofNat 32 x := by
  apply BitVec.eq_of_toNat_eq
  rw [BitVec.toNat_ofInt, BitVec.toNat_ofNat]
  omega
 have h2 : BitVec.ofInt 32 (y : Int) = BitVec.ofNat 32 y := by
  apply BitVec.eq_of_toNat_eq
  rw [BitVec.toNat_ofInt, BitVec.toNat_ofNat]
  omega
 rw [h1, h2, wrap32_nat _ (BitVec.isLt _), BitVec.toNat_or, BitVec.toNat_ofNat, BitVec.toNat_ofNat, Nat.mod_eq_of_lt (by omega), Nat.mod_eq_of_lt (by omega)]
theorem vo_add (k x c : Nat) (hx : x < 2 ^ k) (h : 2 ^ k * c + x < 4294967296) : vo (x : Int) ((2 ^ k * c : Nat) : Int) = ((2 ^ k * c + x : Nat) : Int) := by
 rw [vo_nat _ _ (by omega) (by omega), Nat.or_comm, Nat.two_pow_add_eq_or_of_lt hx c]
theorem vo_vl0 (x c : Int) (hx0 : 0 ≤ x) (hx : x < 1) (hc0 : 0 ≤ c) (hc : c < 256) : vo x (vl (cv .u32 c) 0) = x + 1 * c := by
 rw [cv32 c hc0 hc]
 obtain ⟨a, rfl⟩ : ∃ a : Nat, x = (a : Int) := ⟨x.toNat, by omega⟩
 obtain ⟨b, rfl⟩ : ∃ b : Nat, c = (b : Int) := ⟨c.toNat, by omega⟩
 rw [vl_nat b 0 (by omega), show b * 2 ^ 0 = 2 ^ 0 * b by omega, vo_add 0 a b (by omega) (by omega)]
 omega
theorem vo_vl1 (x c : Int) (hx0 : 0 ≤ x) (hx : x < 256) (hc0 : 0 ≤ c) (hc : c < 256) : vo x (vl (cv .u32 c) 8) = x + 256 * c := by
 rw [cv32 c hc0 hc]
 obtain ⟨a, rfl⟩ : ∃ a : Nat, x = (a : Int) := ⟨x.toNat, by omega⟩
 obtain ⟨b, rfl⟩ : ∃ b : Nat, c = (b : Int) := ⟨c.toNat, by omega⟩
 rw [vl_nat b 8 (by omega), show b * 2 ^ 8 = 2 ^ 8 * b by omega, vo_add 8 a b (by omega) (by omega)]
 omega
theorem vo_vl2 (x c : Int) (hx0 : 0 ≤ x) (hx : x < 65536) (hc0 : 0 ≤ c) (hc : c < 256) : vo x (vl (cv .u32 c) 16) = x + 65536 * c := by
 rw [cv32 c hc0 hc]
 obtain ⟨a, rfl⟩ : ∃ a : Nat, x = (a : Int) := ⟨x.toNat, by omega⟩
 obtain ⟨b, rfl⟩ : ∃ b : Nat, c = (b : Int) := ⟨c.toNat, by omega⟩
 rw [vl_nat b 16 (by omega), show b * 2 ^ 16 = 2 ^ 16 * b by omega, vo_add 16 a b (by omega) (by omega)]
 omega
theorem vo_vl3 (x c : Int) (hx0 : 0 ≤ x) (hx : x < 16777216) (hc0 : 0 ≤ c) (hc : c < 256) : vo x (vl (cv .u32 c) 24) = x + 16777216 * c := by
 rw [cv32 c hc0 hc]
 obtain ⟨a, rfl⟩ : ∃ a : Nat, x = (a : Int) := ⟨x.toNat, by omega⟩
 obtain ⟨b, rfl⟩ : ∃ b : Nat, c = (b : Int) := ⟨c.toNat, by omega⟩
 rw [vl_nat b 24 (by omega), show b * 2 ^ 24 = 2 ^ 24 * b by omega, vo_add 24 a b (by omega) (by omega)]
 omega
theorem va_comm (x y : Int) : va x y = va y x := by
 rw [va_eq, va_eq]
 omega
theorem pw_no (v : NI) (p : Nat) (b : NI) (t : Nat) : ∀ m, (∀ j, j < m → t ≠ p + j / 4) → pw v p b m t = v t
 | 0, _ => rfl
 | m + 1, h => by
  unfold pw
  rw [up_ne _ _ _ (h m (by omega)), pw_no v p b t m (fun j hj => h j (by omega))]
theorem pw_done (v : NI) (p : Nat) (b : NI) (q : Nat) : ∀ d, pw v p b (4 * q + 4 + d) (p + q) = pw v p b (4 * q + 4) (p + q)
 | 0 => rfl
 | d + 1 => by
  show upd (pw v p b (4 * q + 4 + d)) (p + (4 * q + 4 + d) / 4) _ (p + q) = _
  rw [up_ne _ _ _ (by omega), pw_done v p b q d]
def n4 (b0 b1 b2 b3 : Int) : Int := b0 + 256 * b1 + 65536 * b2 + 16777216 * b3
theorem pw_four (v : NI) (p : Nat) (b : NI) (hb : ∀ i, 0 ≤ b i ∧ b i < 256) (q : Nat) (h0 : v (p + q) = 0) : pw v p b (4 * q + 4) (p + q) = n4 (b (4 * q)) (b (4 * q + 1)) (b (4 * q + 2)) (b (4 * q + 3)) := by
 have c0 := hb (4 * q)
 have c1 := hb (4 * q + 1)
 have c2 := hb (4 * q + 2)
 have c3 := hb (4 * q + 3)
 have s0 : pw v p b (4 * q) (p + q) = 0 := by rw [pw_no v p b _ _ (fun j hj => by omega), h0]
 have s1 : pw v p b (4 * q + 1) (p + q) = b (4 * q) := by
  unfold pw
  rw [show p + 4 * q / 4 = p + q by omega, up_at, s0, show 4 * q % 4 * 8 = 0 by omega, vo_vl0 _ _ (by omega) (by omega) c0.1 c0.2]
  omega
 have s2 : pw v p b (4 * q + 2) (p + q) = b (4 * q) + 256 * b (4 * q + 1) := by
  show upd (pw v p b (4 * q + 1)) (p + (4 * q + 1) / 4) (vo (pw v p b (4 * q + 1) (p + (4 * q + 1) / 4)) (vl (cv .u32 (b (4 * q + 1))) ((4 * q + 1) % 4 * 8))) (p + q) = _
  rw [show p + (4 * q + 1) / 4 = p + q by omega, up_at, s1, show (4 * q + 1) % 4 * 8 = 8 by omega, vo_vl1 _ _ (by omega) (by omega) c1.1 c1.2]
 have s3 : pw v p b (4 * q + 3) (p + q) = b (4 * q) + 256 * b (4 * q + 1) + 65536 * b (4 * q + 2) := by
  show upd (pw v p b (4 * q + 2)) (p + (4 * q + 2) / 4) (vo (pw v p b (4 * q + 2) (p + (4 * q + 2) / 4)) (vl (cv .u32 (b (4 * q + 2))) ((4 * q + 2) % 4 * 8))) (p + q) = _
  rw [show p + (4 * q + 2) / 4 = p + q by omega, up_at, s2, show (4 * q + 2) % 4 * 8 = 16 by omega, vo_vl2 _ _ (by omega) (by omega) c2.1 c2.2]
 show upd (pw v p b (4 * q + 3)) (p + (4 * q + 3) / 4) (vo (pw v p b (4 * q + 3) (p + (4 * q + 3) / 4)) (vl (cv .u32 (b (4 * q + 3))) ((4 * q + 3) % 4 * 8))) (p + q) = _
 rw [show p + (4 * q + 3) / 4 = p + q by omega, up_at, s3, show (4 * q + 3) % 4 * 8 = 24 by omega, vo_vl3 _ _ (by omega) (by omega) c3.1 c3.2]
 rfl
theorem pw_word (v : NI) (p : Nat) (b : NI) (hb : ∀ i, 0 ≤ b i ∧ b i < 256) (m q : Nat) (hq : 4 * q + 4 ≤ m) (h0 : v (p + q) = 0) : pw v p b m (p + q) = n4 (b (4 * q)) (b (4 * q + 1)) (b (4 * q + 2)) (b (4 * q + 3)) := by
 obtain ⟨d, rfl⟩ : ∃ d, m = 4 * q + 4 + d := ⟨m - (4 * q + 4), by omega⟩
 rw [pw_done, pw_four v p b hb q h0]
theorem wd4_n4 (s : Yb) : wd4 s = n4 (bt s 0) (bt s 1) (bt s 2) (bt s 3) := by
 have c0 := bt_nn s 0
 have c1 := bt_nn s 1
 have c2 := bt_nn s 2
 have c3 := bt_nn s 3
 unfold wd4
 rw [cv32 (bt s 0) c0.1 c0.2, vo_vl1 _ _ c0.1 c0.2 c1.1 c1.2, vo_vl2 _ _ (by omega) (by omega) c2.1 c2.2, vo_vl3 _ _ (by omega) (by omega) c3.1 c3.2]
 rfl
theorem bt_sub (s : Yb) (p q j : Nat) (hj : j < q - p) (hq : q ≤ s.size) : bt (s.extract p q) j = bt s (p + j) := by
 unfold bt
 rw [ByteArray.data_extract, Array.getElem?_extract, if_pos (by show j < min q s.data.size - p; have : s.size = s.data.size := rfl; omega)]
theorem dx_at (al : Yb) : ∀ n, ∀ i, i < n → dx al n i = wd4 (al.extract (4 * i) (4 * i + 4))
 | 0, i, h => absurd h (by omega)
 | n + 1, i, h => by
  unfold dx upd
  by_cases e : i = n
  ·rw [if_pos e, e]
  ·rw [if_neg e, dx_at al n i (by omega)]
theorem dx_out (al : Yb) : ∀ n, ∀ i, n ≤ i → dx al n i = 0
 | 0, _, _ => rfl
 | n + 1, i, h => by
  unfold dx
  rw [up_ne _ _ _ (by omega), dx_out al n i (by omega)]
theorem dx_n4 (al : Yb) (ha : al.size = 64) (i : Nat) (hi : i < 16) : dx al 16 i = n4 (bt al (4 * i)) (bt al (4 * i + 1)) (bt al (4 * i + 2)) (bt al (4 * i + 3)) := by
 rw [dx_at al 16 i hi, wd4_n4, bt_sub _ _ _ _ (by omega) (by omega), bt_sub _ _ _ _ (by omega) (by omega), bt_sub _ _ _ _ (by omega) (by omega), bt_sub _ _ _ _ (by omega) (by omega), Nat.add_zero]
theorem bt_left (a b : Yb) (i : Nat) (h : i < a.size) : bt (a ++ b) i = bt a i := by
 unfold bt
 rw [ByteArray.data_append, Array.getElem?_append_left h]
theorem bt_right (a b : Yb) (i : Nat) (h : a.size ≤ i) : bt (a ++ b) i = bt b (i - a.size) := by
 unfold bt
 rw [ByteArray.data_append, Array.getElem?_append_right h]
 rfl
theorem bt_bs (l : List Int) (h : ∀ x ∈ l, 0 ≤ x ∧ x < 256) (i : Nat) : bt (bs l) i = l.getD i 0 := by rw [bt_of_sb, sb_bs l h]
theorem nb_n4 (n : Int) (h0 : 0 ≤ n) (h1 : n < 4294967296) : n4 (nb n 0) (nb n 1) (nb n 2) (nb n 3) = n := by
 obtain ⟨m, rfl⟩ : ∃ m : Nat, n = (m : Int) := ⟨n.toNat, by omega⟩
 have hc : ∀ k : Nat, cv .u8 (k : Int) = ((k % 256 : Nat) : Int) := fun k => by
  unfold cv
  simp [IntKind.wrap, IntKind.signed, IntKind.bits]
 have hs : ∀ k : Nat, sr (m : Int) k = ((m / 2 ^ k : Nat) : Int) := fun k => by
  unfold sr
  rw [Int.fdiv_eq_ediv_of_nonneg _ (by exact Int.le_of_lt (Int.pow_pos (by decide)))]
  simp
 show n4 (cv .u8 (m : Int)) (cv .u8 (sr (m : Int) 8)) (cv .u8 (sr (m : Int) 16)) (cv .u8 (sr (m : Int) 24)) = _
 rw [hs, hs, hs, hc, hc, hc, hc]
 unfold n4
 omega
def fw0 (key nonce : Yb) : Nat → Int := pw (f2 key) 13 (bt nonce) nonce.size
theorem pw_upd (v : NI) (x : Int) (b : NI) : ∀ m, pw (upd v 12 x) 13 b m = upd (pw v 13 b m) 12 x
 | 0 => rfl
 | m + 1 => by
  unfold pw
  rw [pw_upd v x b m, up_ne _ _ _ (by omega : 13 + m / 4 ≠ 12), up_comm _ (by omega)]
theorem fw_eq (key nonce : Yb) (n : Int) : fw key nonce n = upd (fw0 key nonce) 12 n := pw_upd _ _ _ _
theorem f1_at (q : Nat) (hq : q < 4) : f1 q = n4 (bt strK (4 * q)) (bt strK (4 * q + 1)) (bt strK (4 * q + 2)) (bt strK (4 * q + 3)) := by
 have h := pw_word (fun _ => 0) 0 (bt strK) (bt_nn strK) 16 q (by omega) rfl
 rw [Nat.zero_add] at h
 exact h
theorem f1_out (t : Nat) (ht : 4 ≤ t) : f1 t = 0 := pw_no (fun _ => 0) 0 (bt strK) t 16 (fun j hj => by omega)
theorem al_1 (key nonce : Yb) (n : Int) (hk : key.size = 32) (i : Nat) (h : i < 16) : bt (alS key nonce n) i = bt strK i := by
 have e1 : (strK ++ key).size = 48 := by rw [ByteArray.size_append, strK_size, hk]
 have e2 : (strK ++ key ++ nB n).size = 52 := by rw [ByteArray.size_append, e1, nB_size]
 unfold alS
 rw [bt_left _ _ _ (by omega), bt_left _ _ _ (by omega), bt_left _ _ _ (by rw [strK_size]; omega)]
theorem al_2 (key nonce : Yb) (n : Int) (hk : key.size = 32) (i : Nat) (h : 16 ≤ i) (h' : i < 48) : bt (alS key nonce n) i = bt key (i - 16) := by
 have e1 : (strK ++ key).size = 48 := by rw [ByteArray.size_append, strK_size, hk]
 have e2 : (strK ++ key ++ nB n).size = 52 := by rw [ByteArray.size_append, e1, nB_size]
 unfold alS
 rw [bt_left _ _ _ (by omega), bt_left _ _ _ (by omega), bt_right _ _ _ (by rw [strK_size]; omega), strK_size]
theorem al_3 (key nonce : Yb) (n : Int) (hk : key.size = 32) (i : Nat) (h : 48 ≤ i) (h' : i < 52) : bt (alS key nonce n) i = ((List.range 4).map (nb n)).getD (i - 48) 0 := by
 have e1 : (strK ++ key).size = 48 := by rw [ByteArray.size_append, strK_size, hk]
 have e2 : (strK ++ key ++ nB n).size = 52 := by rw [ByteArray.size_append, e1, nB_size]
 unfold alS
 rw [bt_left _ _ _ (by omega), bt_right _ _ _ (by omega), e1]
 unfold nB
 rw [bt_bs _ (nb_nn n)]
theorem al_4 (key nonce : Yb) (n : Int) (hk : key.size = 32) (i : Nat) (h : 52 ≤ i) : bt (alS key nonce n) i = bt nonce (i - 52) := by
 have e1 : (strK ++ key).size = 48 := by rw [ByteArray.size_append, strK_size, hk]
 have e2 : (strK ++ key ++ nB n).size = 52 := by rw [ByteArray.size_append, e1, nB_size]
 unfold alS
 rw [bt_right _ _ _ (by omega), e2]
theorem n4_congr {a b c d a' b' c' d' : Int} (h1 : a = a') (h2 : b = b') (h3 : c = c') (h4 : d = d') : n4 a b c d = n4 a' b' c' d' := by rw [h1, h2, h3, h4]
theorem fw_dx (key nonce : Yb) (n : Int) (hk : key.size = 32) (hn : nonce.size = 12) (h0 : 0 ≤ n) (h1 : n < 4294967296) : fw key nonce n = dx (alS key nonce n) 16 := by
 funext t
 rw [fw_eq]
 by_cases h16 : t < 16
 ·rw [dx_n4 _ (alS_size key nonce n hk hn) t h16]
  by_cases c13 : 13 ≤ t
  ·obtain ⟨q, rfl⟩ : ∃ q, t = 13 + q := ⟨t - 13, by omega⟩
   rw [up_ne _ _ _ (by omega)]
   unfold fw0
   rw [pw_word (f2 key) 13 (bt nonce) (bt_nn nonce) nonce.size q (by omega) (by unfold f2; rw [pw_no _ _ _ _ _ (fun j hj => by omega), f1_out _ (by omega)])]
   rw [al_4 key nonce n hk (4 * (13 + q)) (by omega), al_4 key nonce n hk (4 * (13 + q) + 1) (by omega), al_4 key nonce n hk (4 * (13 + q) + 2) (by omega), al_4 key nonce n hk (4 * (13 + q) + 3) (by omega)]
   refine n4_congr ?_ ?_ ?_ ?_ <;> congr 1 <;> omega
  ·by_cases c12 : t = 12
   ·subst c12
    rw [up_at]
    rw [al_3 key nonce n hk (4 * 12) (by omega) (by omega), al_3 key nonce n hk (4 * 12 + 1) (by omega) (by omega), al_3 key nonce n hk (4 * 12 + 2) (by omega) (by omega), al_3 key nonce n hk (4 * 12 + 3) (by omega) (by omega)]
    exact (nb_n4 n h0 h1).symm
   ·rw [up_ne _ _ _ c12]
    unfold fw0
    rw [pw_no _ _ _ _ _ (fun j hj => by omega)]
    by_cases c4 : 4 ≤ t
    ·obtain ⟨q, rfl⟩ : ∃ q, t = 4 + q := ⟨t - 4, by omega⟩
     unfold f2
     rw [pw_word f1 4 (bt key) (bt_nn key) key.size q (by omega) (f1_out _ (by omega))]
     rw [al_2 key nonce n hk (4 * (4 + q)) (by omega) (by omega), al_2 key nonce n hk (4 * (4 + q) + 1) (by omega) (by omega), al_2 key nonce n hk (4 * (4 + q) + 2) (by omega) (by omega), al_2 key nonce n hk (4 * (4 + q) + 3) (by omega) (by omega)]
     refine n4_congr ?_ ?_ ?_ ?_ <;> congr 1 <;> omega
    ·unfold f2
     rw [pw_no _ _ _ _ _ (fun j hj => by omega), f1_at t (by omega)]
     rw [al_1 key nonce n hk (4 * t) (by omega), al_1 key nonce n hk (4 * t + 1) (by omega), al_1 key nonce n hk (4 * t + 2) (by omega), al_1 key nonce n hk (4 * t + 3) (by omega)]
 ·rw [dx_out _ _ _ (by omega), up_ne _ _ _ (by omega)]
  unfold fw0
  rw [pw_no _ _ _ _ _ (fun j hj => by omega)]
  unfold f2
  rw [pw_no _ _ _ _ _ (fun j hj => by omega), f1_out _ (by omega)]
theorem bl_dbl (f : NI) (i : Nat) : bl f i = dbl f i := by
 unfold bl dbl
 rw [va_comm, Nat.mul_comm]
theorem blk_dbk (key nonce : Yb) (n : Int) (hk : key.size = 32) (hn : nonce.size = 12) (h0 : 0 ≤ n) (h1 : n < 4294967296) : blk (fw key nonce n) = dbk key nonce n := by
 unfold blk dbk
 rw [fw_dx key nonce n hk hn h0 h1]
 refine congrArg bs ?_
 exact List.map_congr_left fun i _ => bl_dbl _ i
theorem va_nn (x y : Int) : 0 ≤ va x y ∧ va x y < 4294967296 := by
 rw [va_eq]
 omega
theorem sw_fw (key nonce : Yb) (n : Int) (h0 : 0 ≤ n) (h1 : n < 4294967296) : ∀ j : Nat, sw (fw key nonce n) j = fw key nonce (va n (j : Int))
 | 0 => by
  show fw key nonce n = _
  congr 1
  rw [va_eq]
  omega
 | j + 1 => by
  unfold sw
  rw [sw_fw key nonce n h0 h1 j, fw_eq, fw_eq, up_at, up_up]
  congr 1
  rw [va_eq, va_eq, va_eq]
  omega
theorem ot_map (f : NI) (s : Yb) : ∀ n, ot f s n = (List.range n).map fun i => UInt8.ofNat (ob f s i).toNat
 | 0 => rfl
 | n + 1 => by
  unfold ot
  rw [ot_map f s n, List.range_succ, List.map_append]
  rfl
theorem oS_bs (f : NI) (s : Yb) : oS f s = bs ((List.range s.size).map (ob f s)) := by
 unfold oS bs
 rw [ot_map, List.map_map]
 rfl
theorem oS_size (f : NI) (s : Yb) : (oS f s).size = s.size := by
 rw [oS_bs, bs_size]
 simp
theorem oS_dT (key nonce : Yb) (n : Int) (s : Yb) (hk : key.size = 32) (hn : nonce.size = 12) (h0 : 0 ≤ n) (h1 : n < 4294967296) : oS (fw key nonce n) s = dT key nonce n s := by
 rw [oS_bs]
 unfold dT
 refine congrArg bs <| List.map_congr_left fun i _ => ?_
 unfold ob dob
 refine congrArg (xb (bt s i)) ?_
 have hv := va_nn n ((i / 64 : Nat) : Int)
 rw [sw_fw key nonce n h0 h1, ← blk_dbk key nonce _ hk hn hv.1 hv.2]
 unfold blk
 rw [bt_bs _ (blk_nn _)]
 have hi : i % 64 < 64 := by omega
 rw [List.getD_eq_getElem?_getD, List.getElem?_map, List.getElem?_range hi]
 rfl
open Go.RowKit
open Go.Shelf
def bF (p v : Value) : Nat → Value := fun i => if i = 0 then p else v
theorem put_bF (p v v' : Value) (j : Nat) (hj : j < 2) : (if j = 1 then v' else bF p v j) = bF p v' j := by
 unfold bF
 by_cases h : j = 1
 ·subst h
  rfl
 ·rw [if_neg h]
  have : j = 0 := by omega
  subst this
  rfl
theorem av_bF (p v : Value) : av 2 (bF p v) = #[p, v] := rfl
def selfp (k : Nat) : Value := .pointer (some ⟨k, 0, none⟩)
structure BA (u : World) (k : Nat) (ao : Option Addr) (cap : Nat) (l : List UInt8) : Prop where
 at_ : u.heap[k]? = some (.cells (av 2 (bF (.pointer none) (.slice ao l.length cap))) 182) ∨ u.heap[k]? = some (.cells (av 2 (bF (selfp k) (.slice ao l.length cap))) 182)
 own : u.ownsRowF 0 5 1 (.slice ao l.length cap) l.length (Lib.byteCells l)
def rowOf (ao : Option Addr) : List Nat := (ao.map (·.block)).toList
theorem own_row (ao : Option Addr) (n cap g : Nat) : (Value.slice ao n cap).ownBlock = some g ↔ g ∈ rowOf ao := by
 cases ao with
 | none => simp [Value.ownBlock, rowOf]
 | some a => simp [Value.ownBlock, rowOf, eq_comm]
theorem ownF_keep {u u' : World} {ao : Option Addr} {n cap : Nat} {xs : List Value} (h : u.ownsRowF 0 5 1 (.slice ao n cap) n xs) (hk : ∀ g ∈ rowOf ao, u'.heap[g]? = u.heap[g]?) : u'.ownsRowF 0 5 1 (.slice ao n cap) n xs := by
 refine ⟨h.1, ?_⟩
 rcases h.2 with h | ⟨g, c, cur, fz, hv, h2, h3, h4⟩
 ·exact .inl h
 ·refine .inr ⟨g, c, cur, fz, hv, h2, ?_, h4⟩
  rw [hk g ((own_row ao n cap g).1 (by rw [hv]; rfl))]
  exact h3
theorem BA.keep {u u' : World} {k cap : Nat} {ao : Option Addr} {l : List UInt8} (h : BA u k ao cap l) (h0 : u'.heap[k]? = u.heap[k]?) (hk : ∀ g ∈ rowOf ao, u'.heap[g]? = u.heap[g]?) : BA u' k ao cap l :=
 ⟨by rw [h0]; exact h.at_, ownF_keep h.own hk⟩
theorem BA.lt {u : World} {k cap : Nat} {ao : Option Addr} {l : List UInt8} (h : BA u k ao cap l) : k < u.heap.size := h.at_.elim (fun h => (Array.getElem?_eq_some_iff.1 h).1) (fun h => (Array.getElem?_eq_some_iff.1 h).1)
theorem BA.row_lt {u : World} {k cap : Nat} {ao : Option Addr} {l : List UInt8} (h : BA u k ao cap l) : ∀ g ∈ rowOf ao, g < u.heap.size := fun g hg => (h.own.lt g ((own_row ao _ cap g).2 hg)).2
theorem BA.ne {u : World} {k cap : Nat} {ao : Option Addr} {l : List UInt8} (h : BA u k ao cap l) : k ∉ rowOf ao := fun hk => by
 have h1 := (own_row ao l.length cap k).2 hk
 rcases h.at_ with h2 | h2 <;> exact Lib.ownBlock_neF h.own h2 (by decide) h1
theorem app_str {w : World} {ao : Option Addr} {n cap : Nat} {xs : List Value} (h : w.ownsRowF 0 5 1 (.slice ao n cap) n xs) (s : Yb) (hb : n + s.size ≤ 1000000) (ty : TypeId) :
  ∃ ao' cap' w', (Builtin.append_ #[44, 9] ty #[.slice ao n cap, .string s]).run Tryz.prog w = .ok (.slice ao' (n + s.size) cap') w' ∧ w'.ownsRowF 0 5 1 (.slice ao' (n + s.size) cap') (n + s.size) (xs ++ Lib.strCells s) ∧ Grw w w' (rowOf ao) ∧ (rowOf ao' = rowOf ao ∨ ∃ g, rowOf ao' = [g] ∧ w.heap.size ≤ g) := by
 obtain ⟨i0, hi, hz0, hz1, hz2⟩ := info_parts repExtra.infoByte
 have hm : n + s.size ≤ maxLen := by unfold maxLen; omega
 obtain ⟨v', w', hr, h2, h3, h4⟩ := Lib.run_append_own_stringF (P := Tryz.prog) w 0 44 9 ty 5 i0 Tryz.underlying44 Tryz.underlying9 hi hz0 hz1 hz2 _ n xs h s hm (by omega) (Nat.zero_le _)
 obtain ⟨ao', cap', rfl⟩ : ∃ ao' cap', v' = .slice ao' (n + s.size) cap' := by
  rcases h2.2 with ⟨hv, hn⟩ | ⟨g, c, cur, fz, hv, _⟩
  ·exact ⟨none, 0, by rw [hv, hn]⟩
  ·exact ⟨_, _, hv⟩
 refine ⟨ao', cap', w', hr, h2, ⟨h3.os, h3.tape, h3.output, h3.size, fun k hk hkr => h3.block k hk fun e => hkr ((own_row ao n cap k).1 e.symm)⟩, ?_⟩
 rcases h.2 with ⟨hv, hn⟩ | ⟨g, c, cur, fz, hv, _, hg, hfz, hnc, hcm, hcs, htake⟩
 ·obtain ⟨v2, w2, hr2, h5, _⟩ := Lib.run_append_own_stringF (P := Tryz.prog) w w.heap.size 44 9 ty 5 i0 Tryz.underlying44 Tryz.underlying9 hi hz0 hz1 hz2 _ n xs ⟨h.1, .inl ⟨hv, hn⟩⟩ s hm (by omega) (Nat.le_refl _)
  rw [hr] at hr2
  cases hr2
  cases hao : ao' with
  | none =>
   left
   cases hv
   rfl
  | some x =>
   right
   refine ⟨x.block, rfl, ?_⟩
   rw [hao] at h5
   exact (h5.lt x.block rfl).1
 ·cases hv
  have hxl : xs.length = n := by simpa using h.1
  have hcs' : cur.size = cap := by simpa using hcs
  by_cases hroom : n + s.size ≤ cap
  ·have hr2 := Lib.run_append_room_stringF (P := Tryz.prog) w 44 9 ty 5 i0 Tryz.underlying44 Tryz.underlying9 hi hz1 g n cap cur fz hg (by simpa using hfz) s hroom (by omega)
   rw [hr] at hr2
   cases hr2
   exact .inl rfl
  ·have hr2 := Lib.run_append_grow_string (P := Tryz.prog) w 44 9 ty 5 i0 (.int .u8 0) Tryz.underlying44 Tryz.underlying9 hi hz0 ⟨g, 0, none⟩ n cap xs (by rw [hz1]; simpa using hxl) (h.cells (g := g) rfl) s (by omega) (by omega) (by rw [hz2]; exact growslice_fits (by omega) (by omega))
   rw [hr] at hr2
   cases hr2
   exact .inr ⟨_, rfl, Nat.le_refl _⟩
theorem app_byte {w : World} {ao : Option Addr} {n cap : Nat} {xs : List Value} (h : w.ownsRowF 0 5 1 (.slice ao n cap) n xs) (gx : Nat) (c : Int) (hc : w.cell? ⟨gx, 0, none⟩ = some (.int .u8 c)) (hb : n + 1 ≤ 1000000) (ty : TypeId) :
  ∃ ao' cap' w', (Builtin.append_ #[44, 44] ty #[.slice ao n cap, .slice (some ⟨gx, 0, none⟩) 1 1]).run Tryz.prog w = .ok (.slice ao' (n + 1) cap') w' ∧ w'.ownsRowF 0 5 1 (.slice ao' (n + 1) cap') (n + 1) (xs ++ [.int .u8 c]) ∧ Grw w w' (rowOf ao) ∧ (rowOf ao' = rowOf ao ∨ ∃ g, rowOf ao' = [g] ∧ w.heap.size ≤ g) := by
 obtain ⟨i0, hi, hz0, hz1, hz2⟩ := info_parts repExtra.infoByte
 have hm : n + 1 ≤ maxLen := by unfold maxLen; omega
 have hnews : ∀ j u, [Value.int .u8 c][j]? = some u → w.cell? ((⟨gx, 0, none⟩ : Addr).add j) = some u := fun j u hj => by
  match j, hj with
  | 0, hj => simp at hj; subst hj; simpa [Addr.add] using hc
 have h1 : ∀ u ∈ [Value.int .u8 c], u.oneCell' = true := fun u hu => by simp at hu; subst hu; rfl
 obtain ⟨v', w', hr, h2, h3, h4⟩ := run_append_ownF (P := Tryz.prog) w 0 44 ty 5 i0 (.int .u8 0) 1 1 Tryz.underlying44 hi hz0 hz1 hz2 rfl (by decide) _ n xs h ⟨gx, 0, none⟩ 1 1 [.int .u8 c] rfl hnews h1 hm (by omega) (Nat.zero_le _)
 obtain ⟨ao', cap', rfl⟩ : ∃ ao' cap', v' = .slice ao' (n + 1) cap' := by
  rcases h2.2 with ⟨hv, hn⟩ | ⟨g, c, cur, fz, hv, _⟩
  ·omega
  ·exact ⟨_, _, hv⟩
 refine ⟨ao', cap', w', hr, h2, ⟨h3.os, h3.tape, h3.output, h3.size, fun k hk hkr => h3.block k hk fun e => hkr ((own_row ao n cap k).1 e.symm)⟩, ?_⟩
 rcases h.2 with ⟨hv, hn⟩ | ⟨g, c2, cur, fz, hv, _, hg, hfz, hnc, hcm, hcs, htake⟩
 ·obtain ⟨v2, w2, hr2, h5, _⟩ := run_append_ownF (P := Tryz.prog) w w.heap.size 44 ty 5 i0 (.int .u8 0) 1 1 Tryz.underlying44 hi hz0 hz1 hz2 rfl (by decide) _ n xs ⟨h.1, .inl ⟨hv, hn⟩⟩ ⟨gx, 0, none⟩ 1 1 [.int .u8 c] rfl hnews h1 hm (by omega) (Nat.le_refl _)
  rw [hr] at hr2
  cases hr2
  cases hao : ao' with
  | none =>
   left
   cases hv
   rfl
  | some x =>
   right
   refine ⟨x.block, rfl, ?_⟩
   rw [hao] at h5
   exact (h5.lt x.block rfl).1
 ·cases hv
  have hxl : xs.length = n := by simpa using h.1
  have hcs' : cur.size = cap := by simpa using hcs
  by_cases hroom : n + 1 ≤ cap
  ·have hr2 := run_append_roomF (P := Tryz.prog) w 44 ty 5 i0 Tryz.underlying44 hi g n cap cur fz hg (by rw [hz1]; simpa using hfz) ⟨gx, 0, none⟩ 1 1 [.int .u8 c] (by rw [hz1]; rfl) hnews h1 hroom (by rw [hz1]; simp; omega)
   rw [hr] at hr2
   cases hr2
   exact .inl rfl
  ·have hr2 := run_append_grow (P := Tryz.prog) w 44 ty 5 i0 (.int .u8 0) Tryz.underlying44 hi hz0 ⟨g, 0, none⟩ n cap xs (by rw [hz1]; simpa using hxl) (h.cells (g := g) rfl) ⟨gx, 0, none⟩ 1 1 [.int .u8 c] (by rw [hz1]; rfl) hnews (by omega) (by omega) (by rw [hz2]; exact growslice_fits (by omega) (by omega))
   rw [hr] at hr2
   cases hr2
   exact .inr ⟨_, rfl, Nat.le_refl _⟩
theorem c_chk {u : World} {k cap : Nat} {ao : Option Addr} {l : List UInt8} (h : BA u k ao cap l) : Calls Tryz.prog 157 #[.pointer (some ⟨k, 0, none⟩)] u fun r u' => r = .returned (.tuple #[]) ∧ u'.heap[k]? = some (.cells (av 2 (bF (selfp k) (.slice ao l.length cap))) 182) ∧ Grw u u' [k] := by
 rcases h.at_ with h1 | h1
 ·refine (Any.Builder_copyCheck_fresh (P := Tryz.prog) (ρ := repRen) { lays167 with } repExtra.toX72 k u (cell_av h1 (by decide)) (by simp [World.shape?, h1, av_size, repRen]) (free_av h1 0)).mono ?_
  rintro r u' ⟨rfl, rfl⟩
  refine ⟨rfl, ?_, grown_setCell _ _ _ _⟩
  have h2 := h1
  rw [av_bF] at h2
  rw [av_bF]
  simp [World.setCell, Array.getElem?_modify, h2, selfp]
 ·refine (Any.Builder_copyCheck_used (P := Tryz.prog) (ρ := repRen) { lays167 with } repExtra.toX72 k u (cell_av h1 (by decide))).mono ?_
  rintro r u' ⟨rfl, rfl⟩
  exact ⟨rfl, h1, grown_refl _ _⟩
open Go.RowKit
open Go.Shelf
theorem Mem.grow {c : Ctx} {W W' : World} {L : List Blk} (M : Mem c L W) {r : List Nat} (hg : Grw W W' r) (hr : ∀ g ∈ r, g ∈ c.r ∧ g ∉ L.map Blk.g) : Mem c L W' where
 old := ⟨hg.os.trans M.old.os, hg.tape.trans M.old.tape, hg.output.trans M.old.output, Nat.le_trans M.old.size hg.size, fun k hk hk2 => (hg.block k (Nat.lt_of_lt_of_le hk M.old.size) fun h => hk2 (hr k h).1).trans (M.old.block k hk hk2)⟩
 at_ := fun b hb => by
  rw [hg.block _ (M.lt hb) fun h => (hr _ h).2 (List.mem_map_of_mem hb)]
  exact M.at_ b hb
 ge := M.ge
 nodup := M.nodup
 lay := M.lay
 ne := M.ne
theorem pl_putk {ops : Array Oper} {rest : List Oper} {o : Oper} {a : Act} {w : World} {c : Ctx} {Q : Exit → Act → World → Prop} {k : Nat} {p v v' : Value} (M : Mem c [⟨k, .cells (av 2 (bF p v)) 182⟩] w) (hw : Region.wanted o (yielded ops a.tmps) = true) (hd : o.dst = none) (x y : Operand) (ho : o.op = .store 44 x y) (hx : a.eval x = .pointer (some ⟨k, 1, none⟩)) (hy : a.eval y = v') (h1 : v'.oneCell' = true) (hc : v'.cells = #[v'])
  (h : ∀ w', Mem c [⟨k, .cells (av 2 (bF p v')) 182⟩] w' → (∀ g, g < w.heap.size → g ≠ k → w'.heap[g]? = w.heap[g]?) → PL Tryz.prog ops Q rest a w') : PL Tryz.prog ops Q (o :: rest) a w := by
 have hk : k < w.heap.size := (Array.getElem?_eq_some_iff.1 (M.get 0 rfl)).1
 have M2 : Mem ⟨w, [k]⟩ [⟨k, .cells (av 2 (bF p v)) 182⟩] w := ⟨grown_refl _ _, by simpa using M.get 0 rfl, by simp, by simp, M.laid, by simpa using M.ne0 0 rfl⟩
 refine pl_put1 M2 hw hd 44 x y ho 0 k 1 hx 2 182 _ rfl v' _ hy inz44 (by decide) h1 hc (fun j hj => put_bF _ _ _ j hj) ?_
 intro w' M3
 refine h w' ?_ ?_
 ·exact M.put 0 _ rfl _ ⟨M3.old.os, M3.old.tape, M3.old.output, M3.old.size, fun j hj hr => M3.old.block j hj hr⟩ (M3.get 0 rfl)
 ·intro g hlt hg
  exact M3.old.block g hlt (by simpa using hg)
theorem c_wstr {k cap : Nat} {ao : Option Addr} {l : List UInt8} (s : Yb) (w : World) (hL : Laid w) (h : BA w k ao cap l) (hne : ∀ x ∈ k :: rowOf ao, 2 < x) (hb : l.length + s.size ≤ 1000000) : Calls Tryz.prog 140 #[.pointer (some ⟨k, 0, none⟩), .string s] w fun r w' => r = .returned (.tuple #[.int .i64 (s.size : Int), .nilIface]) ∧ ∃ ao' cap', BA w' k ao' cap' (l ++ s.data.toList) ∧ Grw w w' (k :: rowOf ao) ∧ (rowOf ao' = rowOf ao ∨ ∃ g, rowOf ao' = [g] ∧ w.heap.size ≤ g) := by
 go_enter Tryz.func140, Tryz.ntmps140
 refine sq <| sR <| rV 1 ?_
 refine pl_callq (want_no rfl) (some 7) rfl 157 #[.pointer (some ⟨k, 0, none⟩)] (fun _ => by kernel_rfl) ((c_chk h).mono ?_)
 rintro _ u1 ⟨rfl, hk1, hg1⟩
 refine ⟨_, rfl, ?_⟩
 have M : Mem ⟨w, k :: rowOf ao⟩ [⟨k, .cells (av 2 (bF (selfp k) (.slice ao l.length cap))) 182⟩] u1 := ⟨⟨hg1.os, hg1.tape, hg1.output, hg1.size, fun j hj hr => hg1.block j hj (fun e => hr (by rw [List.mem_singleton.1 e]; exact List.mem_cons_self ..))⟩, by simpa using hk1, by simp, by simp, hL, hne⟩
 have hown : u1.ownsRowF 0 5 1 (.slice ao l.length cap) l.length (Lib.byteCells l) := ownF_keep h.own fun g hg => hg1.block g (h.row_lt g hg) fun e => h.ne (by rw [← List.mem_singleton.1 e]; exact hg)
 refine nT <| sR <| rV 4 <| ZE M 12 0 1 <| rV 1 ?_
 obtain ⟨ao2, cap2, u2, hr2, hown2, hg2, hao⟩ := app_str hown s hb 44
 refine pl_to (want_no rfl) (some 14) rfl (.slice ao2 (l.length + s.size) cap2) u2 (show _ = _ from Eq.trans (b := (do pure (Next.value (← Builtin.append_ #[44, 9] 44 #[.slice ao l.length cap, .string s]))).run Tryz.prog u1) (by kernel_rfl) (by simp only [Sem.run_bind, hr2, Result.andThen_ok, Sem.run_pure])) ?_
 have hfr : rowOf ao2 = rowOf ao ∨ ∃ g, rowOf ao2 = [g] ∧ w.heap.size ≤ g := hao.imp id fun ⟨g, h1, h2⟩ => ⟨g, h1, Nat.le_trans M.old.size h2⟩
 have hrow2 : ∀ g ∈ rowOf ao2, g ≠ k := fun g hg e => by
  rcases hfr with h1 | ⟨x, h1, h2⟩
  ·rw [h1] at hg; exact h.ne (e ▸ hg)
  ·rw [h1] at hg; have h3 := h.lt; rw [List.mem_singleton.1 hg] at e; omega
 replace M := M.grow hg2 (fun g hg => ⟨List.mem_cons_of_mem _ hg, fun e => h.ne (by rw [← show g = k by simpa using e]; exact hg)⟩)
 refine rV 2 ?_
 refine pl_putk (v' := .slice ao2 (l.length + s.size) cap2) M (want_no rfl) rfl _ _ rfl (by kernel_rfl) (by kernel_rfl) rfl rfl ?_
 intro u3 M hst
 refine nT <| sq <| wp_ret ?_
 refine bodyPost_ret (v := .tuple #[.int .i64 (s.size : Int), Value.nilIface]) (results_tmp2 Tryz.results140 _ _ _ _ (by kernel_rfl) (by kernel_rfl)) (by kernel_rfl) ⟨rfl, ao2, cap2, ⟨.inr ?_, ?_⟩, M.old, hfr⟩
 ·rw [show (l ++ s.data.toList).length = l.length + s.size from List.length_append]; exact M.get 0 rfl
 ·rw [show (l ++ s.data.toList).length = l.length + s.size from List.length_append, Lib.byteCells_append]; exact ownF_keep hown2 fun g hg => hst g (hown2.lt g ((own_row _ _ _ g).2 hg)).2 (hrow2 g hg)
theorem c_wbyte {k cap : Nat} {ao : Option Addr} {l : List UInt8} (c : Int) (w : World) (hL : Laid w) (h : BA w k ao cap l) (hne : ∀ x ∈ k :: rowOf ao, 2 < x) (hb : l.length + 1 ≤ 1000000) (h0 : 0 ≤ c) (h1 : c < 256) : Calls Tryz.prog 128 #[.pointer (some ⟨k, 0, none⟩), .int .u8 c] w fun r w' => r = .returned (.nilIface) ∧ ∃ ao' cap', BA w' k ao' cap' (l ++ [UInt8.ofNat c.toNat]) ∧ Grw w w' (k :: rowOf ao) ∧ (rowOf ao' = rowOf ao ∨ ∃ g, rowOf ao' = [g] ∧ w.heap.size ≤ g) := by
 go_enter Tryz.func128, Tryz.ntmps128
 refine sq <| sR <| rV 1 ?_
 refine pl_callq (want_no rfl) (some 6) rfl 157 #[.pointer (some ⟨k, 0, none⟩)] (fun _ => by kernel_rfl) ((c_chk h).mono ?_)
 rintro _ u1 ⟨rfl, hk1, hg1⟩
 refine ⟨_, rfl, ?_⟩
 have M : Mem ⟨w, k :: rowOf ao⟩ [⟨k, .cells (av 2 (bF (selfp k) (.slice ao l.length cap))) 182⟩] u1 := ⟨⟨hg1.os, hg1.tape, hg1.output, hg1.size, fun j hj hr => hg1.block j hj (fun e => hr (by rw [List.mem_singleton.1 e]; exact List.mem_cons_self ..))⟩, by simpa using hk1, by simp, by simp, hL, hne⟩
 have hown : u1.ownsRowF 0 5 1 (.slice ao l.length cap) l.length (Lib.byteCells l) := ownF_keep h.own fun g hg => hg1.block g (h.row_lt g hg) fun e => h.ne (by rw [← List.mem_singleton.1 e]; exact hg)
 refine nT <| sR <| rV 4 <| ZE M 11 0 1 <| rV 1 ?_
 have hb2 : ∀ g ∈ rowOf ao, u1.heap[g]? = u1.heap[g]? := fun g hg => rfl
 refine pl_to (want_no rfl) (some 13) rfl (.slice (some ⟨u1.heap.size, 0, none⟩) 1 1) (u1.alloc (.cells (av 1 (fun _ => .int .u8 c)) 5)) (by kernel_rfl) ?_
 replace M := M.new u1.heap.size (.cells (av 1 (fun _ => .int .u8 c)) 5) (new_below u1 _) (heap_alloc_new u1 _) (Nat.le_refl _)
 replace hb2 : ∀ g ∈ rowOf ao, (u1.alloc (.cells (av 1 (fun _ => .int .u8 c)) 5)).heap[g]? = u1.heap[g]? := fun g hg => heap_alloc_old u1 _ (hown.lt g ((own_row _ _ _ g).2 hg)).2
 obtain ⟨ao2, cap2, u2, hr2, hown2, hg2, hao⟩ := app_byte (ownF_keep hown fun g hg => hb2 g hg) u1.heap.size c (cell_av (M.get 1 rfl) (by decide)) hb 44
 refine pl_to (want_no rfl) (some 14) rfl (.slice ao2 (l.length + 1) cap2) u2 (show _ = _ from Eq.trans (b := (do pure (Next.value (← Builtin.append_ #[44, 44] 44 #[.slice ao l.length cap, .slice (some ⟨u1.heap.size, 0, none⟩) 1 1]))).run Tryz.prog (u1.alloc (.cells (av 1 (fun _ => .int .u8 c)) 5))) (by kernel_rfl) (by simp only [Sem.run_bind, hr2, Result.andThen_ok, Sem.run_pure])) ?_
 have hfr : rowOf ao2 = rowOf ao ∨ ∃ g, rowOf ao2 = [g] ∧ w.heap.size ≤ g := hao.imp id fun ⟨g, h1, h2⟩ => ⟨g, h1, Nat.le_trans M.old.size h2⟩
 have hrow2 : ∀ g ∈ rowOf ao2, g ≠ k := fun g hg e => by
  rcases hfr with h1 | ⟨x, h1, h2⟩
  ·rw [h1] at hg; exact h.ne (e ▸ hg)
  ·rw [h1] at hg; have h3 := h.lt; rw [List.mem_singleton.1 hg] at e; omega
 replace M := M.drop (L' := [⟨k, .cells (av 2 (bF (selfp k) (.slice ao l.length cap))) 182⟩]) (.cons_cons _ (.cons _ .slnil))
 replace M := M.grow hg2 (fun g hg => ⟨List.mem_cons_of_mem _ hg, fun e => h.ne (by rw [← show g = k by simpa using e]; exact hg)⟩)
 refine rV 2 ?_
 refine pl_putk (v' := .slice ao2 (l.length + 1) cap2) M (want_no rfl) rfl _ _ rfl (by kernel_rfl) (by kernel_rfl) rfl rfl ?_
 intro u3 M hst
 refine nT <| sq <| wp_ret ?_
 refine bodyPost_ret (v := Value.nilIface) (results_tmp1 Tryz.results128 _ _ _ (by kernel_rfl)) (by kernel_rfl) ⟨rfl, ao2, cap2, ⟨.inr ?_, ?_⟩, M.old, hfr⟩
 ·rw [show (l ++ [UInt8.ofNat c.toNat]).length = l.length + 1 from List.length_append]; exact M.get 0 rfl
 ·rw [show (l ++ [UInt8.ofNat c.toNat]).length = l.length + 1 from List.length_append, cells_one l c h0 h1]; exact ownF_keep hown2 fun g hg => hst g (hown2.lt g ((own_row _ _ _ g).2 hg)).2 (hrow2 g hg)
open Go.RowKit
open Go.Shelf
theorem BA.cell1 {u : World} {k cap : Nat} {ao : Option Addr} {l : List UInt8} (h : BA u k ao cap l) : u.cell? ⟨k, 1, none⟩ = some (.slice ao l.length cap) := h.at_.elim (fun h => cell_av h (by decide)) (fun h => cell_av h (by decide))
theorem freeze_row {u : World} {g n : Nat} {cur : Array Value} {fz : Nat × Nat} (h : u.heap[g]? = some (.cells cur 5 fz)) (hf : fz.2 ≤ n) (hn : n ≠ 0) : ∃ fz', (u.freeze ⟨g, 0, none⟩ n).heap[g]? = some (.cells cur 5 fz') ∧ fz'.2 ≤ n ∧ Grw u (u.freeze ⟨g, 0, none⟩ n) [g] := by
 unfold World.freeze
 rw [if_neg hn]
 refine ⟨(if fz.1 == fz.2 then (0, 0 + n) else (min fz.1 0, max fz.2 (0 + n))), ?_, ?_, ⟨rfl, rfl, rfl, by simp, fun j _ hj => ?_⟩⟩
 ·simp only [Array.getElem?_modify, h]
  simp
 ·split
  ·simp
  ·show max fz.2 (0 + n) ≤ n
   omega
 ·simp only [Array.getElem?_modify]
  rw [if_neg (fun e => hj (by simpa using e.symm))]
theorem c_blen {k cap : Nat} {ao : Option Addr} {l : List UInt8} (w : World) (hL : Laid w) (h : BA w k ao cap l) : Cs 141 #[.pointer (some ⟨k, 0, none⟩)] w (.int .i64 (l.length : Int)) := by
 go_enter Tryz.func141, Tryz.ntmps141
 have M := Mem.start hL
 refine sq <| sR <| rV 3 <| pE M 6 k 1 (.slice ao l.length cap) (fun w M => M.oldc h.cell1 (by simp)) <| rV 2 <| nT <| wp_ret ?_
 exact b1 M
theorem row_cell {u : World} {g : Nat} {cur : Array Value} {fz : Nat × Nat} {l : List UInt8} (h : u.heap[g]? = some (.cells cur 5 fz)) (ht : cur.toList.take (l.length * 1) = Lib.byteCells l) {j : Nat} {x : UInt8} (hx : l[j]? = some x) : u.cell? ⟨g, j, none⟩ = some (.int .u8 x.toNat) := by
 have h2 : (Lib.byteCells l)[j]? = some (.int .u8 x.toNat) := by simp [Lib.byteCells, hx]
 rw [← ht, List.getElem?_take] at h2
 split at h2
 ·unfold World.cell?
  rw [h]
  simpa using h2
 ·cases h2
theorem c_bstr {k cap : Nat} {ao : Option Addr} {l : List UInt8} (w : World) (hL : Laid w) (h : BA w k ao cap l) (hne : ∀ x ∈ k :: rowOf ao, 2 < x) (h0 : l ≠ []) : Calls Tryz.prog 129 #[.pointer (some ⟨k, 0, none⟩)] w fun r w' => r = .returned (.string ⟨l.toArray⟩) ∧ ∃ ao' cap', BA w' k ao' cap' l ∧ Grw w w' (k :: rowOf ao) ∧ (rowOf ao' = rowOf ao ∨ ∃ g, rowOf ao' = [g] ∧ w.heap.size ≤ g) := by
 have hl0 : l.length ≠ 0 := by simpa using h0
 obtain ⟨g, cur, fz, rfl, hg, hfz, hnc, hcm, hcs, htake⟩ : ∃ g cur fz, ao = some ⟨g, 0, none⟩ ∧ w.heap[g]? = some (.cells cur 5 fz) ∧ fz.2 ≤ l.length ∧ l.length ≤ cap ∧ cap ≤ maxLen ∧ cur.size = cap * 1 ∧ cur.toList.take (l.length * 1) = Lib.byteCells l := by
  rcases h.own.2 with ⟨_, hz⟩ | ⟨g, c, cur, fz, hv, _, h2, h3, h4⟩
  ·exact absurd hz hl0
  ·cases hv
   exact ⟨g, cur, fz, rfl, h2, by simpa using h3, h4⟩
 have hgk : g ≠ k := fun e => h.ne (by simp [rowOf, e])
 have M : Mem ⟨w, [g]⟩ [⟨g, .cells cur 5 fz⟩] w := ⟨grown_refl _ _, by simpa using hg, by simp, by simp, hL, fun x e => hne x (List.mem_cons_of_mem _ (by simpa [rowOf] using e))⟩
 go_enter Tryz.func129, Tryz.ntmps129
 refine sq <| wp_seq <| rgh M [] 11 fun u1 M => ?_
 have qM := M.drop (.cons _ (.slnil))
 refine qV qM 0 3 (.pointer (some ⟨k, 0, none⟩)) <| qV qM 1 4 (.pointer (some ⟨k, 0, none⟩)) <| qV qM 2 5 (.pointer (some ⟨k, 1, none⟩)) <| qC qM 3 6 k 1 (.slice (some ⟨g, 0, none⟩) l.length cap) (fun w M => M.oldc h.cell1 (by simpa using Ne.symm hgk)) <| qH qM 4 7 (.pointer (some ⟨g, 0, none⟩)) (fun w _ => (fun w => Eq.trans (b := (do pure (Next.value (← Builtin.unsafeSliceData_ #[44] 218 #[.slice (some ⟨g, 0, none⟩) l.length cap]))).run Tryz.prog w) (by kernel_rfl) (by simp only [Sem.run_bind, Lib.run_unsafeSliceData_row w #[44] 218 ⟨g, 0, none⟩ l.length cap (by omega), Result.andThen_ok, Sem.run_pure])) w) <| qV qM 5 8 (.pointer (some ⟨k, 0, none⟩)) <| qV qM 6 9 (.pointer (some ⟨k, 0, none⟩)) <| qV qM 7 10 (.pointer (some ⟨k, 1, none⟩)) <| qC qM 8 11 k 1 (.slice (some ⟨g, 0, none⟩) l.length cap) (fun w M => M.oldc h.cell1 (by simpa using Ne.symm hgk)) <| qV qM 9 12 (.int .i64 (l.length : Int)) <| qO 10 ?_
 have hg1 : u1.heap[g]? = some (.cells cur 5 fz) := M.get 0 rfl
 have hUS := Lib.run_unsafeString_row (P := Tryz.prog) u1 218 3 9 5 Tryz.underlying218 repExtra.cellsByte g cur.size (by simp [World.shape?, hg1]) l h0 (by omega) (by unfold maxLen at hcm; omega) (fun j x hx => by rw [add_at, Nat.zero_add]; exact row_cell hg1 htake hx)
 obtain ⟨fz1, hf1, hf2, hf3⟩ := freeze_row hg1 hfz (by simpa using h0)
 refine pl_to (want_no rfl) (some 13) rfl (.string ⟨l.toArray⟩) (u1.freeze ⟨g, 0, none⟩ l.length) (show _ = _ from Eq.trans (b := (do pure (Next.value (← Builtin.unsafeString_ #[218, 3] 9 #[.pointer (some ⟨g, 0, none⟩), .int .i64 l.length]))).run Tryz.prog u1) (by kernel_rfl) (by simp only [Sem.run_bind, hUS, Result.andThen_ok, Sem.run_pure])) ?_
 replace M := M.put 0 _ rfl _ hf3 hf1
 generalize u1.freeze ⟨g, 0, none⟩ l.length = u2 at M ⊢
 refine nT ?_
 refine ⟨(M.drop (.cons _ (.slnil))), ?_⟩
 refine qZ ?_
 refine rV 1 <| nT <| au_then <| wp_ret ?_
 refine bodyPost_ret (v := .string ⟨l.toArray⟩) (results_tmp1 Tryz.results129 _ _ _ (by kernel_rfl)) (by kernel_rfl) ⟨rfl, some ⟨g, 0, none⟩, cap, ⟨?_, ⟨by simp [Lib.byteCells_length], .inr ⟨g, cap, cur, fz1, rfl, Nat.zero_le _, M.get 0 rfl, by omega, hnc, hcm, hcs, htake⟩⟩⟩, ?_, .inl rfl⟩
 ·have e := M.old.block k h.lt (by simpa using Ne.symm hgk)
  rw [show u2.heap[k]? = w.heap[k]? from e]; exact h.at_
 ·exact ⟨M.old.os, M.old.tape, M.old.output, M.old.size, fun j hj hr => M.old.block j hj fun e => hr (List.mem_cons_of_mem _ (by simpa [rowOf] using e))⟩
theorem flatMap_eq {α β : Type} {f g : α → List β} : ∀ (l : List α), (∀ a ∈ l, f a = g a) → l.flatMap f = l.flatMap g
 | [], _ => rfl
 | a :: l, h => by rw [List.flatMap_cons, List.flatMap_cons, h a (List.mem_cons_self ..), flatMap_eq l fun b hb => h b (List.mem_cons_of_mem _ hb)]
structure Bd where
 k : Nat
 l : List UInt8
def owns (V : Nat → Option Addr × Nat) (Bs : List Bd) : List Nat := Bs.flatMap fun b => b.k :: rowOf (V b.k).1
structure SN (w : World) (Bs : List Bd) (L : List Blk) (u : World) : Prop where
 bel : Below w.heap.size w u
 at_ : ∀ b ∈ L, u.heap[b.g]? = some b.Z
 ex : ∃ V : Nat → Option Addr × Nat, (∀ b ∈ Bs, BA u b.k (V b.k).1 (V b.k).2 b.l) ∧ (owns V Bs ++ L.map Blk.g).Nodup ∧ ∀ x ∈ owns V Bs ++ L.map Blk.g, w.heap.size ≤ x
theorem owns_lt {u : World} {V : Nat → Option Addr × Nat} {Bs : List Bd} (h : ∀ b ∈ Bs, BA u b.k (V b.k).1 (V b.k).2 b.l) : ∀ x ∈ owns V Bs, x < u.heap.size := fun x hx => by
 obtain ⟨b, hb, hx⟩ := List.mem_flatMap.1 hx
 rcases List.mem_cons.1 hx with rfl | hx
 ·exact (h b hb).lt
 ·exact (h b hb).row_lt x hx
theorem SN.mem {w u : World} {Bs : List Bd} {L : List Blk} (h : SN w Bs L u) (hL : Laid w) : Mem ⟨u, L.map Blk.g⟩ L u := by
 obtain ⟨V, h1, h2, h3⟩ := h.ex
 exact ⟨grown_refl _ _, h.at_, fun b hb => .inr (List.mem_map_of_mem hb), (List.nodup_append.1 h2).2.1, below_laid h.bel hL, fun x e => by
  have := h3 x (List.mem_append.2 (.inr e))
  have := hL.lt
  omega⟩
theorem SN.next {w u u' : World} {Bs : List Bd} {L L' : List Blk} (h : SN w Bs L u) (M : Mem ⟨u, L.map Blk.g⟩ L' u') : SN w Bs L' u' := by
 obtain ⟨V, h1, h2, h3⟩ := h.ex
 obtain ⟨n1, n2, n3⟩ := List.nodup_append.1 h2
 have hsz := h.bel.size
 have ho : Grw u u' (L.map Blk.g) := M.old
 have hk : ∀ x ∈ owns V Bs, u'.heap[x]? = u.heap[x]? := fun x hx => ho.block x (owns_lt h1 x hx) fun hm => n3 x hx x hm rfl
 refine ⟨h.bel.trans ⟨ho.os, ho.tape, ho.output, ho.size, fun j hj => ho.block j (by omega) fun hm => ?_⟩, M.at_, V, fun b hb => ?_, ?_, fun x hx => ?_⟩
 ·have := h3 j (List.mem_append.2 (.inr hm))
  omega
 ·exact (h1 b hb).keep (hk _ (List.mem_flatMap.2 ⟨b, hb, List.mem_cons_self ..⟩)) fun g hg => hk _ (List.mem_flatMap.2 ⟨b, hb, List.mem_cons_of_mem _ hg⟩)
 ·refine List.nodup_append.2 ⟨n1, M.nodup, fun x hx y hy e => ?_⟩
  subst e
  obtain ⟨b, hb, rfl⟩ := List.mem_map.1 hy
  rcases M.ge b hb with h4 | h4
  ·have h4 : u.heap.size ≤ b.g := h4
   have := owns_lt h1 _ hx
   omega
  ·exact n3 _ hx _ h4 rfl
 ·rcases List.mem_append.1 hx with hx | hx
  ·exact h3 x (List.mem_append.2 (.inl hx))
  ·obtain ⟨b, hb, rfl⟩ := List.mem_map.1 hx
   rcases M.ge b hb with h4 | h4
   ·have h4 : u.heap.size ≤ b.g := h4
    omega
   ·exact h3 _ (List.mem_append.2 (.inr h4))
theorem SN.keep {w u u' : World} {Bs : List Bd} {L : List Blk} (h : SN w Bs L u) (hL : Laid w) (hb : Below u.heap.size u u') : SN w Bs L u' := h.next ((h.mem hL).keep hb)
theorem SN.perm {w u : World} {Bs Bs' : List Bd} {L : List Blk} (h : SN w Bs L u) (hp : Bs.Perm Bs') : SN w Bs' L u := by
 obtain ⟨V, h1, h2, h3⟩ := h.ex
 have hq : (owns V Bs ++ L.map Blk.g).Perm (owns V Bs' ++ L.map Blk.g) := (hp.flatMap_right _).append_right _
 exact ⟨h.bel, h.at_, V, fun b hb => h1 b (hp.mem_iff.2 hb), hq.nodup_iff.1 h2, fun x hx => h3 x (hq.mem_iff.2 hx)⟩
theorem SN.cell {w u : World} {Bs : List Bd} {L : List Blk} (h : SN w Bs L u) {g i : Nat} {v : Value} (hg : g < w.heap.size) (hc : w.cell? ⟨g, i, none⟩ = some v) : u.cell? ⟨g, i, none⟩ = some v := by
 unfold World.cell? at hc ⊢
 simp only at hc ⊢
 rw [h.bel.block g hg]
 exact hc
theorem SN.step {w u u' : World} {k : Nat} {l l' : List UInt8} {Bs : List Bd} {L : List Blk} {V : Nat → Option Addr × Nat} (hbel : Below w.heap.size w u) (hat : ∀ b ∈ L, u.heap[b.g]? = some b.Z) (h1 : ∀ b ∈ (⟨k, l⟩ :: Bs : List Bd), BA u b.k (V b.k).1 (V b.k).2 b.l) (h2 : (owns V (⟨k, l⟩ :: Bs) ++ L.map Blk.g).Nodup) (h3 : ∀ x ∈ owns V (⟨k, l⟩ :: Bs) ++ L.map Blk.g, w.heap.size ≤ x)
  {ao : Option Addr} {cap : Nat} (hb : BA u' k ao cap l') (hg : Grw u u' (k :: rowOf (V k).1)) (hao : rowOf ao = rowOf (V k).1 ∨ ∃ g, rowOf ao = [g] ∧ u.heap.size ≤ g) : SN w (⟨k, l'⟩ :: Bs) L u' := by
 have hsz := hbel.size
 have hown : owns V (⟨k, l⟩ :: Bs) = k :: (rowOf (V k).1 ++ owns V Bs) := rfl
 have hmine : ∀ x ∈ k :: rowOf (V k).1, w.heap.size ≤ x := fun x hx => h3 x (List.mem_append.2 (.inl (by
  rw [hown]
  rcases List.mem_cons.1 hx with rfl | hx
  ·exact List.mem_cons_self ..
  ·exact List.mem_cons_of_mem _ (List.mem_append.2 (.inl hx)))))
 rw [hown, List.cons_append, List.append_assoc] at h2
 have h2' : ((k :: rowOf (V k).1) ++ (owns V Bs ++ L.map Blk.g)).Nodup := h2
 obtain ⟨n1, n2, n3⟩ := List.nodup_append.1 h2'
 have hlt : ∀ x ∈ owns V Bs ++ L.map Blk.g, x < u.heap.size := fun x hx => by
  rcases List.mem_append.1 hx with hx | hx
  ·exact owns_lt (fun b hb => h1 b (List.mem_cons_of_mem _ hb)) x hx
  ·obtain ⟨b, hb, rfl⟩ := List.mem_map.1 hx
   exact (Array.getElem?_eq_some_iff.1 (hat b hb)).1
 have hkeep : ∀ x ∈ owns V Bs ++ L.map Blk.g, u'.heap[x]? = u.heap[x]? := fun x hx => hg.block x (hlt x hx) fun hm => n3 x hm x hx rfl
 have hV : ∀ b ∈ Bs, (if b.k = k then (ao, cap) else V b.k) = V b.k := fun b hb => if_neg fun e => n3 k (List.mem_cons_self ..) b.k (List.mem_append.2 (.inl (List.mem_flatMap.2 ⟨b, hb, List.mem_cons_self ..⟩))) e.symm
 have hownV : owns (fun j => if j = k then (ao, cap) else V j) Bs = owns V Bs := by
  unfold owns
  refine flatMap_eq Bs fun b hb => ?_
  show b.k :: rowOf (if b.k = k then (ao, cap) else V b.k).1 = _
  rw [hV b hb]
 have hown2 : owns (fun j => if j = k then (ao, cap) else V j) (⟨k, l'⟩ :: Bs) = k :: (rowOf ao ++ owns V Bs) := by
  rw [← hownV]
  show k :: rowOf (if k = k then (ao, cap) else V k).1 ++ _ = _
  rw [if_pos rfl]
  rfl
 have hnew : ∀ x ∈ rowOf ao, (x ∈ rowOf (V k).1 ∨ u.heap.size ≤ x) := fun x hx => by
  rcases hao with h | ⟨g, h, h4⟩
  ·rw [h] at hx
   exact .inl hx
  ·rw [h] at hx
   rw [List.mem_singleton.1 hx]
   exact .inr h4
 refine ⟨hbel.trans ⟨hg.os, hg.tape, hg.output, hg.size, fun j hj => hg.block j (by omega) fun hm => ?_⟩, fun b hb => ?_, fun j => if j = k then (ao, cap) else V j, fun b hm => ?_, ?_, ?_⟩
 ·have := hmine j hm
  omega
 ·rw [hkeep _ (List.mem_append.2 (.inr (List.mem_map_of_mem hb)))]
  exact hat b hb
 ·rcases List.mem_cons.1 hm with rfl | hb
  ·show BA u' k (if k = k then (ao, cap) else V k).1 (if k = k then (ao, cap) else V k).2 l'
   rw [if_pos rfl]
   exact hb
  ·show BA u' b.k (if b.k = k then (ao, cap) else V b.k).1 (if b.k = k then (ao, cap) else V b.k).2 b.l
   rw [hV b hb]
   exact (h1 b (List.mem_cons_of_mem _ hb)).keep (hkeep _ (List.mem_append.2 (.inl (List.mem_flatMap.2 ⟨b, hb, List.mem_cons_self ..⟩)))) fun g hg => hkeep _ (List.mem_append.2 (.inl (List.mem_flatMap.2 ⟨b, hb, List.mem_cons_of_mem _ hg⟩)))
 ·rw [hown2, List.cons_append, List.append_assoc]
  show ((k :: rowOf ao) ++ (owns V Bs ++ L.map Blk.g)).Nodup
  have hk : k < u.heap.size := (h1 _ (List.mem_cons_self ..)).lt
  refine List.nodup_append.2 ⟨List.nodup_cons.2 ⟨hb.ne, ?_⟩, n2, fun x hx y hy e => ?_⟩
  ·cases ao with
   | none => simp [rowOf]
   | some a => simp [rowOf]
  ·subst e
   rcases List.mem_cons.1 hx with rfl | hx
   ·exact n3 _ (List.mem_cons_self ..) _ hy rfl
   ·rcases hnew x hx with h | h
    ·exact n3 _ (List.mem_cons_of_mem _ h) _ hy rfl
    ·have := hlt x hy
     omega
 ·intro x hx
  rw [hown2, List.cons_append, List.append_assoc] at hx
  rcases List.mem_cons.1 hx with rfl | hx
  ·exact hmine _ (List.mem_cons_self ..)
  ·rcases List.mem_append.1 hx with hx | hx
   ·rcases hnew x hx with h | h
    ·exact hmine x (List.mem_cons_of_mem _ h)
    ·omega
   ·refine h3 x ?_
    rw [hown, List.cons_append, List.append_assoc]
    exact List.mem_cons_of_mem _ (List.mem_append.2 (.inr hx))
theorem SN.not1 {w : World} {k : Nat} {l : List UInt8} {Bs : List Bd} {L : List Blk} {V : Nat → Option Addr × Nat} (hL : Laid w) (h3 : ∀ x ∈ owns V (⟨k, l⟩ :: Bs) ++ L.map Blk.g, w.heap.size ≤ x) : ∀ x ∈ k :: rowOf (V k).1, 2 < x := fun x e => by
 have := h3 x (List.mem_append.2 (.inl (List.mem_append.2 (.inl e))))
 have := hL.lt
 omega
theorem SN.wstr {w u : World} {k : Nat} {l : List UInt8} {Bs : List Bd} {L : List Blk} (h : SN w (⟨k, l⟩ :: Bs) L u) (hL : Laid w) (s : Yb) (hz : l.length + s.size ≤ 1000000) : Calls Tryz.prog 140 #[.pointer (some ⟨k, 0, none⟩), .string s] u fun r u' => r = .returned (.tuple #[.int .i64 (s.size : Int), .nilIface]) ∧ SN w (⟨k, l ++ s.data.toList⟩ :: Bs) L u' := by
 obtain ⟨V, h1, h2, h3⟩ := h.ex
 refine (c_wstr s u (below_laid h.bel hL) (h1 _ (List.mem_cons_self ..)) (SN.not1 hL h3) hz).mono ?_
 rintro r u' ⟨rfl, ao, cap, h4, h5, h6⟩
 exact ⟨rfl, SN.step h.bel h.at_ h1 h2 h3 h4 h5 h6⟩
theorem SN.wbyte {w u : World} {k : Nat} {l : List UInt8} {Bs : List Bd} {L : List Blk} (h : SN w (⟨k, l⟩ :: Bs) L u) (hL : Laid w) (c : Int) (h0 : 0 ≤ c) (hc : c < 256) (hz : l.length + 1 ≤ 1000000) : Calls Tryz.prog 128 #[.pointer (some ⟨k, 0, none⟩), .int .u8 c] u fun r u' => r = .returned .nilIface ∧ SN w (⟨k, l ++ [UInt8.ofNat c.toNat]⟩ :: Bs) L u' := by
 obtain ⟨V, h1, h2, h3⟩ := h.ex
 refine (c_wbyte c u (below_laid h.bel hL) (h1 _ (List.mem_cons_self ..)) (SN.not1 hL h3) hz h0 hc).mono ?_
 rintro r u' ⟨rfl, ao, cap, h4, h5, h6⟩
 exact ⟨rfl, SN.step h.bel h.at_ h1 h2 h3 h4 h5 h6⟩
theorem SN.str {w u : World} {k : Nat} {l : List UInt8} {Bs : List Bd} {L : List Blk} (h : SN w (⟨k, l⟩ :: Bs) L u) (hL : Laid w) (h0 : l ≠ []) : Calls Tryz.prog 129 #[.pointer (some ⟨k, 0, none⟩)] u fun r u' => r = .returned (.string ⟨l.toArray⟩) ∧ SN w (⟨k, l⟩ :: Bs) L u' := by
 obtain ⟨V, h1, h2, h3⟩ := h.ex
 refine (c_bstr u (below_laid h.bel hL) (h1 _ (List.mem_cons_self ..)) (SN.not1 hL h3) h0).mono ?_
 rintro r u' ⟨rfl, ao, cap, h4, h5, h6⟩
 exact ⟨rfl, SN.step h.bel h.at_ h1 h2 h3 h4 h5 h6⟩
theorem SN.len {w u : World} {k : Nat} {l : List UInt8} {Bs : List Bd} {L : List Blk} (h : SN w (⟨k, l⟩ :: Bs) L u) (hL : Laid w) : Calls Tryz.prog 141 #[.pointer (some ⟨k, 0, none⟩)] u fun r u' => r = .returned (.int .i64 (l.length : Int)) ∧ SN w (⟨k, l⟩ :: Bs) L u' := by
 obtain ⟨V, h1, h2, h3⟩ := h.ex
 refine (c_blen u (below_laid h.bel hL) (h1 _ (List.mem_cons_self ..))).mono ?_
 rintro r u' ⟨rfl, h4⟩
 exact ⟨rfl, h.keep hL h4⟩
theorem SN.start2 {w u : World} {k1 k2 : Nat} {L : List Blk} (M : Mem ⟨w, []⟩ (⟨k1, .cells (av 2 bF0) 182⟩ :: ⟨k2, .cells (av 2 bF0) 182⟩ :: L) u) : SN w [⟨k1, []⟩, ⟨k2, []⟩] L u := by
 have hba : ∀ k, u.heap[k]? = some (.cells (av 2 bF0) 182) → BA u k none 0 [] := fun k h => ⟨.inl h, by simp [Lib.byteCells], .inl ⟨rfl, rfl⟩⟩
 refine ⟨below_grown M.old, fun b hb => M.at_ b (List.mem_cons_of_mem _ (List.mem_cons_of_mem _ hb)), fun _ => (none, 0), fun b hb => ?_, M.nodup, fun x hx => ?_⟩
 ·rcases List.mem_cons.1 hb with rfl | hb
  ·exact hba _ (M.get 0 rfl)
  ·rw [List.mem_singleton.1 hb]
   exact hba _ (M.get 1 rfl)
 ·have hx2 : x ∈ ((⟨k1, .cells (av 2 bF0) 182⟩ :: ⟨k2, .cells (av 2 bF0) 182⟩ :: L : List Blk).map Blk.g) := hx
  obtain ⟨b, hb, rfl⟩ := List.mem_map.1 hx2
  exact (M.ge b hb).elim id fun h => by cases h
end Go.Proofs.YtiahdbibeleakaaGreatDoor
namespace Go.Proofs.YtiahdbibeleakaaGreatDoor.Pol
open Go.RowKit
theorem inz33 : (Tryz.prog.info? 33).map (·.size) = some 1 := by kernel_rfl
theorem inz5 : (Tryz.prog.info? 5).map (·.size) = some 1 := by kernel_rfl
theorem inz192 : (Tryz.prog.info? 192).map (·.size) = some 5 := by kernel_rfl
theorem wrap64 {x : Int} (h0 : -9223372036854775808 ≤ x) (h1 : x < 9223372036854775808) : IntKind.wrap .i64 x = x := by
 simp [IntKind.wrap, IntKind.signed, IntKind.bits, go_sem]
 omega
theorem run_ixL {P : Program} {a : Act} {o : Oper} (t elem : TypeId) (hu : P.underlying t = some (.slice elem)) (hs : (P.info? elem).map (·.size) = some 1) (x ix : Operand) (ho : o.op = .indexAddr t x ix) (g off len cap : Nat) (hx : a.eval x = .slice (some ⟨g, off, none⟩) len cap) (k : IntKind) (i : Nat) (hi : a.eval ix = .int k (i : Int)) (hlt : i < len) (w : World) :
  (execOp a.eval o).run P w = .ok (.value (.pointer (some ⟨g, off + i, none⟩))) w := by
 cases hq : P.info? elem with
 | none => simp [hq] at hs
 | some u =>
  have hsz : u.size = 1 := by simpa [hq] using hs
  unfold execOp
  simp [ho, hx, hi, Instr.indexAt, asIntOf, run_underlying hu, sizeOf, typeInfo, hq, hsz, add_at, hlt]
theorem run_strl {P : Program} {a : Act} {o : Oper} (t : TypeId) (hu : P.underlying t = some .string) (x lo : Operand) (ho : o.op = .slice t x (some lo) none none) (s : Yb) (hx : a.eval x = .string s) (k : IntKind) (i : Nat) (hi : a.eval lo = .int k (i : Int)) (hle : i ≤ s.size) (v : Yb) (hv : s.extract i s.size = v) (w : World) :
  (execOp a.eval o).run P w = .ok (.value (.string v)) w := by
 subst hv
 unfold execOp
 simp [ho, hx, hi, run_sliceAt_string w t (.string s) (some (.int k i)) none none hu, run_slice_string_l w t s hu k i (by omega) (by omega)]
theorem run_strh {P : Program} {a : Act} {o : Oper} (t : TypeId) (hu : P.underlying t = some .string) (x hi : Operand) (ho : o.op = .slice t x none (some hi) none) (s : Yb) (hx : a.eval x = .string s) (k : IntKind) (i : Nat) (hh : a.eval hi = .int k (i : Int)) (hle : i ≤ s.size) (v : Yb) (hv : s.extract 0 i = v) (w : World) :
  (execOp a.eval o).run P w = .ok (.value (.string v)) w := by
 subst hv
 unfold execOp
 simp [ho, hx, hh, run_sliceAt_string w t (.string s) none (some (.int k i)) none hu, run_slice_string_h w t s hu k i (by omega) (by omega)]
theorem run_ixS {P : Program} {a : Act} {o : Oper} (t : TypeId) (hu : P.underlying t = some .string) (x ix : Operand) (ho : o.op = .index t x ix) (s : Yb) (hx : a.eval x = .string s) (k : IntKind) (i : Nat) (hi : a.eval ix = .int k (i : Int)) (hlt : i < s.size) (w : World) :
  (execOp a.eval o).run P w = .ok (.value (.int .u8 (bt s i))) w := by
 have e : s[i]? = some s[i] := ByteArray.getElem?_lt' s i hlt
 have e2 : bt s i = (s[i].toNat : Int) := by
  unfold bt
  rw [Array.getElem?_eq_getElem hlt]
  rfl
 unfold execOp
 simp [ho, hx, hi, Instr.index, asIntOf, run_underlying hu, e, e2]
theorem run_strlh {P : Program} {a : Act} {o : Oper} (t : TypeId) (hu : P.underlying t = some .string) (x lo hi : Operand) (ho : o.op = .slice t x (some lo) (some hi) none) (s : Yb) (hx : a.eval x = .string s) (k k' : IntKind) (i j : Nat) (hl : a.eval lo = .int k (i : Int)) (hh : a.eval hi = .int k' (j : Int)) (hij : i ≤ j) (hle : j ≤ s.size) (w : World) :
  (execOp a.eval o).run P w = .ok (.value (.string (s.extract i j))) w := by
 unfold execOp
 simp [ho, hx, hl, hh, run_sliceAt_string w t (.string s) (some (.int k i)) (some (.int k' j)) none hu, run_slice_string w t s k k' i j hu (by omega) (by omega) (by omega)]
def xb (x y : Int) : Int := IntKind.wrap .u8 (BitVec.ofInt 8 x ^^^ BitVec.ofInt 8 y).toNat
theorem sb_av (n : Nat) (F : NI) (T : TypeId) : SB (.cells (av n (w8 F)) T) n (vs8 ((List.range n).map F)) := ⟨_, T, (0, 0), rfl, by simp [vs8], by rw [av_size]; exact Nat.le_refl _, fun i hi => by
 simp [vs8] at hi
 simp [vs8, av, w8, hi], fun i _ => by simp⟩
theorem run_ix0 {P : Program} {a : Act} {o : Oper} (t elem : TypeId) (hu : P.underlying t = some (.slice elem)) (hs : (P.info? elem).map (·.size) = some 1) (x ix : Operand) (ho : o.op = .indexAddr t x ix) (g len cap : Nat) (hx : a.eval x = .slice (some ⟨g, 0, none⟩) len cap) (k : IntKind) (i : Nat) (hi : a.eval ix = .int k (i : Int)) (hlt : i < len) (w : World) :
  (execOp a.eval o).run P w = .ok (.value (.pointer (some ⟨g, i, none⟩))) w := by
 have h := run_ixL (P := P) t elem hu hs x ix ho g 0 len cap hx k i hi hlt w
 rwa [Nat.zero_add] at h
theorem xb_nn (x y : Int) : 0 ≤ xb x y ∧ xb x y < 256 := by
 unfold xb
 simp [IntKind.wrap, IntKind.signed, IntKind.bits]
 omega
theorem quo26 (j : Nat) (hj : j < 1000000) : IntKind.wrap .i64 ((j : Int).tdiv 26) = ((j / 26 : Nat) : Int) := by
 rw [Int.tdiv_eq_ediv_of_nonneg (by omega), wrap64 (by omega) (by omega)]
 omega
theorem rem26 (n : Nat) : Int.tmod (n : Int) 26 = ((n % 26 : Nat) : Int) := by
 rw [Int.tmod_eq_emod_of_nonneg (by omega)]
 omega
def ob8 (x y : Int) : Int := IntKind.wrap .u8 (BitVec.ofInt 8 x ||| BitVec.ofInt 8 y).toNat
def nb8 (x y : Int) : Int := IntKind.wrap .u8 (BitVec.ofInt 8 x &&& BitVec.ofInt 8 y).toNat
def db8 (x y : Int) : Int := IntKind.wrap .u8 (BitVec.ofInt 8 x &&& ~~~ BitVec.ofInt 8 y).toNat
theorem run_shlU {P : Program} {a : Act} {o : Oper} (t rt : TypeId) (x y : Operand) (ho : o.op = .binOp .shl t x y rt) (k : Int) (ky : IntKind) (m : Nat) (hx : a.eval x = .int .u64 k) (hy : a.eval y = .int ky (m : Int)) (_hm : m ≤ 64) (w : World) :
  (execOp a.eval o).run P w = .ok (.value (.int .u64 (sl k m))) w := by
 unfold execOp sl
 simp [ho, hx, hy, eqGuard, binOp]
theorem run_shrU {P : Program} {a : Act} {o : Oper} (t rt : TypeId) (x y : Operand) (ho : o.op = .binOp .shr t x y rt) (k : Int) (ky : IntKind) (m : Nat) (hx : a.eval x = .int .u64 k) (hy : a.eval y = .int ky (m : Int)) (_hm : m ≤ 64) (w : World) :
  (execOp a.eval o).run P w = .ok (.value (.int .u64 (sr k m))) w := by
 have hp : (0 : Int) ≤ 2 ^ m := Int.le_of_lt (Int.pow_pos (by decide))
 unfold execOp sr
 rw [Int.fdiv_eq_ediv_of_nonneg k hp]
 simp [ho, hx, hy, eqGuard, binOp]
theorem run_slL {P : Program} {a : Act} {o : Oper} (t e : TypeId) (hu : P.underlying t = some (.slice e)) (hs : (P.info? e).map (·.size) = some 1) (x lo : Operand) (ho : o.op = .slice t x (some lo) none none) (g off len cap : Nat) (hx : a.eval x = .slice (some ⟨g, off, none⟩) len cap) (k : IntKind) (i : Nat) (hi : a.eval lo = .int k (i : Int)) (hlt : i < cap) (hle : i ≤ len) (w : World) :
  (execOp a.eval o).run P w = .ok (.value (.slice (some ⟨g, off + i, none⟩) (len - i) (cap - i))) w := by
 cases hq : P.info? e with
 | none => simp [hq] at hs
 | some u =>
  have hsz : u.size = 1 := by simpa [hq] using hs
  have hne : ¬ cap = i := by omega
  unfold execOp
  simp [ho, hx, hi, Instr.sliceAt, Instr.slice, run_underlying hu, Instr.sliceBounds, run_sliceBound, sizeOf, typeInfo, hq, hsz, add_at, hne, hle]
theorem run_slM {P : Program} {a : Act} {o : Oper} (t e : TypeId) (hu : P.underlying t = some (.slice e)) (hs : (P.info? e).map (·.size) = some 1) (x lo hi mx : Operand) (ho : o.op = .slice t x (some lo) (some hi) (some mx)) (g off len cap : Nat) (hx : a.eval x = .slice (some ⟨g, off, none⟩) len cap) (k k' k2 : IntKind) (i j : Nat) (hi1 : a.eval lo = .int k (i : Int)) (hi2 : a.eval hi = .int k' (j : Int)) (hi3 : a.eval mx = .int k2 (j : Int)) (hlt : i < j) (hle : j ≤ cap) (w : World) :
  (execOp a.eval o).run P w = .ok (.value (.slice (some ⟨g, off + i, none⟩) (j - i) (j - i))) w := by
 cases hq : P.info? e with
 | none => simp [hq] at hs
 | some u =>
  have hsz : u.size = 1 := by simpa [hq] using hs
  have hne : ¬ j = i := by omega
  have hle2 : i ≤ j := by omega
  unfold execOp
  simp [ho, hx, hi1, hi2, hi3, Instr.sliceAt, Instr.slice, run_underlying hu, Instr.sliceBounds, run_sliceBound, sizeOf, typeInfo, hq, hsz, add_at, hne, hle, hle2]
section
variable {P : Program} {ops : Array Oper} {rest : List Oper} {o : Oper} {a : Act} {w : World} {c : Ctx} {L : List Blk} {Q : Exit → Act → World → Prop}
theorem pl_copyC (M : Mem c L w) (hw : Region.wanted o (yielded ops a.tmps) = true) (d : Option Tmp) (hd : o.dst = d) (dT sT ty elem : TypeId) (hu : P.underlying dT = some (.slice elem)) (hz : (P.info? elem).map (·.size) = some 1) (i g n T : Nat) (F : NV) (hi : L[i]? = some ⟨g, .cells (av n F) T⟩) (g2 : Nat) (F2 : NV) (od dl dc os sl sc k : Nat) (hk : k = Nat.min sl dl) (hd1 : od + k ≤ n) (hsrc : ∀ w, Mem c L w → ∀ j, j < k → w.cell? ⟨g2, os + j, none⟩ = some (F2 j)) (h1 : ∀ j, (F2 j).oneCell' = true) (Fn : NV) (hfn : ∀ j, j < n → (if od ≤ j ∧ j < od + k then F2 (j - od) else F j) = Fn j)
  (hrun : ∀ w, (execOp a.eval o).run P w = (do pure (Next.value (← Builtin.copy_ #[dT, sT] ty #[.slice (some ⟨g, od, none⟩) dl dc, .slice (some ⟨g2, os, none⟩) sl sc]))).run P w)
  (h : ∀ w', Mem c (L.set i ⟨g, .cells (av n Fn) T⟩) w' → PL P ops Q rest (a.put d (goInt k)) w') : PL P ops Q (o :: rest) a w := by
 have R := M.get i hi
 have hl : (av k F2).toList.length = k := by simp [av_size]
 have hr := run_copy_cells (P := P) w dT sT ty elem g od dl dc ⟨g2, os, none⟩ sl sc (av k F2).toList hu hz (by rw [hl, hk])
  (fun j v hv => by
   obtain ⟨hj, rfl⟩ := av_toList_get _ _ _ _ hv
   rw [add_at]
   exact hsrc w M j hj)
  (fun j hj => by rw [hl] at hj; rw [cell_av R (by omega)]; rfl) (fun j hj => free_av R _)
  (fun v hv => by
   obtain ⟨j, hj⟩ := List.mem_iff_getElem?.1 hv
   obtain ⟨hj', rfl⟩ := av_toList_get _ _ _ _ hj
   exact h1 _)
 rw [hl] at hr
 refine pl_to hw d hd (goInt k) _ ?_ (h _ (M.put i ⟨g, _⟩ hi _ (grown_setCells g _ _ _) (by rw [heap_setCells g T _ w _ od R, setAll_av n F F2 Fn od k hd1 hfn])))
 rw [hrun]
 simp only [Sem.run_bind, hr, Result.andThen_ok, Sem.run_pure]
end
theorem min_if (x y : Nat) : (if (y : Int) < (x : Int) then (y : Int) else (x : Int)) = ((min x y : Nat) : Int) := by
 by_cases h : y < x
 ·rw [if_pos (by omega), Nat.min_eq_right (by omega)]
 ·rw [if_neg (by omega), Nat.min_eq_left (by omega)]
open Go.RowKit
def cy (sh : Nat) (a : NI) : Nat → Int
 | 0 => 0
 | j + 1 => sr (ua (a j) (cy sh a j)) sh
def st (m : Int) (sh : Nat) (a : NI) : Nat → (Nat → Int)
 | 0 => a
 | j + 1 => upd (st m sh a j) j (un (ua (a j) (cy sh a j)) m)
def s5 (a : NI) : Nat → Int := st 67108863 26 a 5
def c5 (a : NI) : Int := cy 26 a 5
theorem c_settled (x : NI) (w : World) (hL : Laid w)  : Cs 164 #[.agg (av 5 (w64 x))] w (.tuple #[.agg (av 5 (w64 (s5 x))), .int .u64 (c5 x)]) := by
 go_enter Tryz.func164, Tryz.ntmps164
 have M := Mem.start hL
 refine sR <| pN M 1 (.cells (av 5 (w64 x)) 192) fun g1 u1 M => pN M 2 (.cells (av 5 (w64 (fun _ => 0))) 192) fun g2 u2 M => rV 1 <| nT <| sq <| wp_seq <| sR <| pA M 7 0 5 (w64 x) <| rV 1 <| nT <| wp_block ?_
 refine au_loop (fun j a w' => ∃ v1 : NV, a = (fm ([.agg (av 5 (w64 x)), .pointer (some ⟨g1, 0, none⟩), .pointer (some ⟨g2, 0, none⟩), .int .u64 0, .int .u64 (cy 26 x j)] ++ vr v1 5 2 ++ [.agg (av 5 (w64 x)), .int .i64 (j : Int)] ++ vr v1 9 15)) ∧ Mem ⟨w, []⟩ [⟨g1, .cells (av 5 (w64 (st 67108863 26 x j))) 192⟩, ⟨g2, .cells (av 5 (w64 (fun _ => 0))) 192⟩] w') 5 (exS M) ?_ ?_
 ·intro j a u0 hj hI
  obtain ⟨v1, rfl, M⟩ := hI
  refine sR <| ZT 9 ((j : Int) < 5) <| nT <| wp_seq <| cT <| wp_skip <| au_then <| wp_seq <| wp_block <| sR <| rV 1 <| pH 11 (.int .u64 (x (j))) (run_ixA 192 5 33 Tryz.underlying192 inz33 (fun _ => by kernel_rfl) _ _ rfl (w64 x) (by kernel_rfl) .i64 (j) (by kernel_rfl) (by omega) rfl) <| rV 2 <| nT <| sq <| rg_lit ?_
  refine rV 5 <| ZX 20 .i64 g1 (j) 5 <| ZP64 M 0 j (un (ua (x (j)) (cy 26 x j)) 67108863) fun u3 M => rV 1 <| pl_nil <| au_block <| au_then <| rg_lit <| ZI 21 ((j : Int) + 1) ((j + 1 : Nat) : Int) <| rV 1 <| nT ?_
  exact exS M
 ·intro a u0 hI
  obtain ⟨v1, rfl, M⟩ := hI
  refine sR <| ZF 9 (5 < 5) <| nT <| wp_seq <| cF <| wp_exit <| au_then_exit <| au_then_exit <| au_block_exit <| au_then <| sR <| pA M 22 0 5 (w64 (st 67108863 26 x 5)) <| rV 1 <| ZG M 1 5 (w64 (st 67108863 26 x 5)) fun u4 M => rV 1 <| nT ?_
  refine wp_ret ?_
  exact bct Tryz.results164 M 1 5 (w64 (st 67108863 26 x 5)) (.int .u64 (cy 26 x 5)) ⟨rfl, below_grown M.old⟩
def cr1 (a : NI) : Nat → Int := upd (s5 a) 0 (ua (s5 a 0) (um (c5 a) 5))
def crr (a : NI) : Nat → (Nat → Int)
 | 0 => a
 | j + 1 => cr1 (crr a j)
def crF (a : NI) : Nat → Int := cr1 (cr1 a)
theorem c_carried (x : NI) (w : World) (hL : Laid w)  : Cs 163 #[.agg (av 5 (w64 x))] w (.agg (av 5 (w64 (crF x)))) := by
 go_enter Tryz.func163, Tryz.ntmps163
 have M := Mem.start hL
 refine sR <| pN M 1 (.cells (av 5 (w64 x)) 192) fun g1 u1 M => pN M 2 (.cells (av 5 (w64 (fun _ => 0))) 192) fun g2 u2 M => nT <| wp_seq <| sq <| wp_block ?_
 refine au_loop (fun j a w' => ∃ v1 : NV, a = (fm ([.agg (av 5 (w64 x)), .pointer (some ⟨g1, 0, none⟩), .pointer (some ⟨g2, 0, none⟩)] ++ vr v1 3 2 ++ [.int .i64 (j : Int)] ++ vr v1 6 15)) ∧ Mem ⟨w, []⟩ [⟨g1, .cells (av 5 (w64 (crr x j))) 192⟩, ⟨g2, .cells (av 5 (w64 (fun _ => 0))) 192⟩] w') 2 (exS M) ?_ ?_
 ·intro j a u0 hj hI
  obtain ⟨v1, rfl, M⟩ := hI
  refine sR <| ZT 6 ((j : Int) < 2) <| nT <| wp_seq <| cT <| wp_skip <| au_then <| wp_seq <| wp_block <| sR <| pA M 8 0 5 (w64 (crr x j)) <| ZC M 9 (fun w M => c_settled (crr x j) w M.laid) fun u3 M => rV 3 <| pN M 3 (.cells (av 5 (w64 (fun _ => 0))) 192) fun g3 u4 M => ZG M 2 5 (w64 (s5 (crr x j))) fun u5 M => rV 1 ?_
  refine nT <| sR <| rV 1 <| ZE M 13 2 0 <| rV 4 <| ZP64 M 2 0 (ua ((s5 (crr x j)) 0) (um (c5 (crr x j)) 5)) fun u6 M => nT <| rg_lit ?_
  refine pA M 18 2 5 (w64 (upd (s5 (crr x j)) 0 (ua ((s5 (crr x j)) 0) (um (c5 (crr x j)) 5)))) <| ZG M 0 5 (w64 (upd (s5 (crr x j)) 0 (ua ((s5 (crr x j)) 0) (um (c5 (crr x j)) 5)))) fun u7 M => pl_nil <| au_block <| au_then <| rg_lit <| ZI 19 ((j : Int) + 1) ((j + 1 : Nat) : Int) <| rV 1 ?_
  refine nT ?_
  exact exS (M.drop (.cons_cons _ (.cons_cons _ (.cons _ (.slnil)))))
 ·intro a u0 hI
  obtain ⟨v1, rfl, M⟩ := hI
  refine sR <| ZF 6 (2 < 2) <| nT <| wp_seq <| cF <| wp_exit <| au_then_exit <| au_then_exit <| au_block_exit <| au_then <| sR <| pA M 20 0 5 (w64 (crr x 2)) <| ZG M 1 5 (w64 (crr x 2)) fun u8 M => nT <| wp_ret ?_
  exact bc Tryz.results163 M 1 5 (w64 (crr x 2)) ⟨rfl, below_grown M.old⟩
def pls (a b : NI) : Nat → (Nat → Int)
 | 0 => a
 | j + 1 => upd (pls a b j) j (ua (pls a b j j) (b j))
def plF (a b : NI) : Nat → Int := pls a b 5
theorem c_plus (x y : NI) (w : World) (hL : Laid w)  : Cs 135 #[.agg (av 5 (w64 x)), .agg (av 5 (w64 y))] w (.agg (av 5 (w64 (plF x y)))) := by
 go_enter Tryz.func135, Tryz.ntmps135
 have M := Mem.start hL
 refine sR <| pN M 2 (.cells (av 5 (w64 x)) 192) fun g1 u1 M => pN M 3 (.cells (av 5 (w64 y)) 192) fun g2 u2 M => pN M 4 (.cells (av 5 (w64 (fun _ => 0))) 192) fun g3 u3 M => nT <| wp_seq <| sq <| wp_block ?_
 refine au_loop (fun j a w' => ∃ v1 : NV, a = (fm ([.agg (av 5 (w64 x)), .agg (av 5 (w64 y)), .pointer (some ⟨g1, 0, none⟩), .pointer (some ⟨g2, 0, none⟩), .pointer (some ⟨g3, 0, none⟩), v1 5, .int .i64 (j : Int)] ++ vr v1 7 12)) ∧ Mem ⟨w, []⟩ [⟨g1, .cells (av 5 (w64 (pls x y j))) 192⟩, ⟨g2, .cells (av 5 (w64 y)) 192⟩, ⟨g3, .cells (av 5 (w64 (fun _ => 0))) 192⟩] w') 5 (exS M) ?_ ?_
 ·intro j a u0 hj hI
  obtain ⟨v1, rfl, M⟩ := hI
  refine sR <| ZT 7 ((j : Int) < 5) <| nT <| wp_seq <| cT <| wp_skip <| au_then <| wp_seq <| wp_block <| sq <| rg_tail M 8 (by kernel_rfl) (by kernel_rfl) ?_
  simp only [List.take_succ_cons, List.take_zero]
  refine kR 1 <| eX 10 .i64 g1 (j) 5 <| eE M 11 0 j <| kR 1 <| eX 13 .i64 g2 (j) 5 <| eE M 14 1 j <| kR 1 <| eX 16 .i64 g1 (j) 5 <| kl_nil fun u4 M => ZP64 M 0 j (ua ((pls x y j) j) (y j)) fun u5 M => pl_nil <| au_block <| au_then <| rg_lit <| ZI 17 ((j : Int) + 1) ((j + 1 : Nat) : Int) <| rV 1 ?_
  refine nT ?_
  exact exS M
 ·intro a u0 hI
  obtain ⟨v1, rfl, M⟩ := hI
  refine sR <| ZF 7 (5 < 5) <| nT <| wp_seq <| cF <| wp_exit <| au_then_exit <| au_then_exit <| au_block_exit <| au_then <| sR <| pA M 18 0 5 (w64 (pls x y 5)) <| ZG M 2 5 (w64 (pls x y 5)) fun u6 M => nT <| wp_ret ?_
  exact bc Tryz.results135 M 2 5 (w64 (pls x y 5)) ⟨rfl, below_grown M.old⟩
def mo5 (a : NI) : Nat → Int := upd a 0 (ua (a 0) 5)
def lsF (a : NI) : Nat → Int := s5 (upd a 0 (ua (a 0) (um (c5 (mo5 a)) 5)))
theorem c_least (x : NI) (w : World) (hL : Laid w)  : Cs 138 #[.agg (av 5 (w64 x))] w (.agg (av 5 (w64 (lsF x)))) := by
 go_enter Tryz.func138, Tryz.ntmps138
 have M := Mem.start hL
 refine sR <| pN M 1 (.cells (av 5 (w64 x)) 192) fun g1 u1 M => pN M 2 (.cells (av 5 (w64 (fun _ => 0))) 192) fun g2 u2 M => nT <| sR <| pA M 6 0 5 (w64 x) <| pN M 3 (.cells (av 5 (w64 (fun _ => 0))) 192) fun g3 u3 M => ZG M 2 5 (w64 x) fun u4 M => nT <| sR <| rV 1 <| ZE M 8 2 0 <| rV 2 <| ZP64 M 2 0 (ua (x 0) 5) fun u5 M => nT <| sR ?_
 refine pA M 12 2 5 (w64 (mo5 x)) <| ZC M 13 (fun w M => c_settled (mo5 x) w M.laid) fun u6 M => rV 3 <| pN M 4 (.cells (av 5 (w64 (fun _ => 0))) 192) fun g4 u7 M => ZG M 3 5 (w64 (s5 (mo5 x))) fun u8 M => rV 1 <| nT <| sR <| rV 1 <| ZE M 17 0 0 <| rV 4 <| ZP64 M 0 0 (ua (x 0) (um (c5 (mo5 x)) 5)) fun u9 M => nT <| sR <| pA M 23 0 5 (w64 (upd x 0 (ua (x 0) (um (c5 (mo5 x)) 5)))) <| ZC M 24 (fun w M => c_settled (upd x 0 (ua (x 0) (um (c5 (mo5 x)) 5))) w M.laid) fun u10 M => ?_
 refine rV 3 <| ZG M 0 5 (w64 (s5 (upd x 0 (ua (x 0) (um (c5 (mo5 x)) 5))))) fun u11 M => nT <| sR ?_
 refine pA M 27 0 5 (w64 (s5 (upd x 0 (ua (x 0) (um (c5 (mo5 x)) 5))))) <| ZG M 1 5 (w64 (s5 (upd x 0 (ua (x 0) (um (c5 (mo5 x)) 5))))) fun u12 M => nT <| wp_ret ?_
 exact bc Tryz.results138 M 1 5 (w64 (s5 (upd x 0 (ua (x 0) (um (c5 (mo5 x)) 5))))) ⟨rfl, below_grown M.old⟩
def nof (p : NI) : Nat → (Nat → Int)
 | 0 => fun _ => 0
 | j + 1 => upd (nof p j) (8 * j / 26) (uo (nof p j (8 * j / 26)) (sl (cv .u64 (p j)) (8 * j % 26)))
def noF (p : NI) : Nat → Int := s5 (nof p 17)
theorem c_number (p : NI) (w : World) (hL : Laid w)  : Cs 161 #[.agg (av 17 (w8 p))] w (.agg (av 5 (w64 (noF p)))) := by
 go_enter Tryz.func161, Tryz.ntmps161
 have M := Mem.start hL
 refine sR <| pN M 1 (.cells (av 17 (w8 p)) 221) fun g1 u1 M => pN M 2 (.cells (av 5 (w64 (fun _ => 0))) 192) fun g2 u2 M => nT <| sR <| pN M 3 (.cells (av 5 (w64 (fun _ => 0))) 192) fun g3 u3 M => nT <| wp_seq <| sR <| pA M 6 0 17 (w8 p) <| rV 1 <| nT <| wp_block ?_
 refine au_loop (fun j a w' => ∃ v1 : NV, a = (fm ([.agg (av 17 (w8 p)), .pointer (some ⟨g1, 0, none⟩), .pointer (some ⟨g2, 0, none⟩), .pointer (some ⟨g3, 0, none⟩)] ++ vr v1 4 2 ++ [.agg (av 17 (w8 p)), .int .i64 (j : Int)] ++ vr v1 8 23)) ∧ Mem ⟨w, []⟩ [⟨g1, .cells (av 17 (w8 p)) 221⟩, ⟨g2, .cells (av 5 (w64 (fun _ => 0))) 192⟩, ⟨g3, .cells (av 5 (w64 (nof p j))) 192⟩] w') 17 (exS M) ?_ ?_
 ·intro j a u0 hj hI
  obtain ⟨v1, rfl, M⟩ := hI
  refine sR <| ZT 8 ((j : Int) < 17) <| nT <| wp_seq <| cT <| wp_skip <| au_then <| wp_seq <| wp_block <| sR <| rV 1 <| pH 10 (.int .u8 (p (j))) (run_ixA 221 17 5 Tryz.underlying221 inz5 (fun _ => by kernel_rfl) _ _ rfl (w8 p) (by kernel_rfl) .i64 (j) (by kernel_rfl) (by omega) rfl) <| rV 2 <| nT <| rg_tail M 13 (by kernel_rfl) (by kernel_rfl) ?_
  simp only [List.take_succ_cons, List.take_zero]
  refine kR 1 <| eI 12 (8 * (j : Int)) ((8 * j : Nat) : Int) <| eQ 13 .i64 (IntKind.wrap .i64 (((8 * j : Nat) : Int).tdiv 26)) (quo26 (8 * j) (by omega)) <| eX 14 .i64 g3 ((8 * j / 26 : Nat)) 5 <| eE M 15 2 ((8 * j / 26 : Nat)) <| kR 3 <| eI 19 (8 * (j : Int)) ((8 * j : Nat) : Int) <| eQ 20 .i64 (Int.tmod ((8 * j : Nat) : Int) 26) (rem26 (8 * j)) <| kH 21 (.int .u64 (sl (cv .u64 (p j)) (8 * j % 26))) (run_shlU 33 3 _ _ rfl _ .i64 (8 * j % 26) (by kernel_rfl) (by kernel_rfl) (by omega)) <| kR 1 <| eX 23 .i64 g3 ((8 * j / 26 : Nat)) 5 <| kl_nil fun u4 M => ZP64 M 2 ((8 * j / 26 : Nat)) (uo ((nof p j) ((8 * j / 26 : Nat))) (sl (cv .u64 (p j)) (8 * j % 26))) fun u5 M => pl_nil <| au_block <| au_then ?_
  refine rg_lit <| ZI 24 ((j : Int) + 1) ((j + 1 : Nat) : Int) <| rV 1 <| nT ?_
  exact exS M
 ·intro a u0 hI
  obtain ⟨v1, rfl, M⟩ := hI
  refine sR <| ZF 8 (17 < 17) <| nT <| wp_seq <| cF <| wp_exit <| au_then_exit <| au_then_exit <| au_block_exit <| au_then <| sR <| pA M 26 2 5 (w64 (nof p 17)) <| ZC M 27 (fun w M => c_settled (nof p 17) w M.laid) fun u6 M => rV 3 <| ZG M 2 5 (w64 (s5 (nof p 17))) fun u7 M => nT ?_
  refine sR <| pA M 30 2 5 (w64 (s5 (nof p 17))) <| ZG M 1 5 (w64 (s5 (nof p 17))) fun u8 M => nT <| wp_ret ?_
  exact bc Tryz.results161 M 1 5 (w64 (s5 (nof p 17))) ⟨rfl, below_grown M.old⟩
def pd (b : NI) (n : Nat) : Nat → Int := fun i => if i < n then b i else 0
theorem pd_fn (b : NI) (n : Nat) (j : Nat) : (if 0 ≤ j ∧ j < 0 + n then w8 b (j - 0) else w8 (fun _ => 0) j) = w8 (pd b n) j := by
 unfold w8 pd
 by_cases h : j < n
 ·rw [if_pos (by omega), if_pos h, Nat.sub_zero]
 ·rw [if_neg (by omega), if_neg h]
def fc1 (p : NI) : Nat → Int := upd (upd (upd (upd p 3 (nb8 (p 3) 15)) 7 (nb8 (p 7) 15)) 11 (nb8 (p 11) 15)) 15 (nb8 (p 15) 15)
def fc2 (p : NI) : Nat → Int := upd (upd (upd p 4 (db8 (p 4) 3)) 8 (db8 (p 8) 3)) 12 (db8 (p 12) 3)
def mk (b : NI) (n : Nat) : Nat → Int := upd (pd b n) n 1
theorem c_plain (s : Yb) (hs : s.size = 16) (w : World) (hL : Laid w)  : Cs 133 #[.string s] w (.agg (av 5 (w64 (noF (pd (bt s) 16))))) := by
 go_enter Tryz.func133, Tryz.ntmps133
 have M := Mem.start hL
 refine sR <| pN M 2 (.cells (av 5 (w64 (fun _ => 0))) 192) fun g1 u1 M => nT <| sR <| pN M 3 (.cells (av 17 (w8 (fun _ => 0))) 221) fun g2 u2 M => nT <| sR <| rV 2 <| pl_copyS M (want_no rfl) (some 6) rfl 44 9 3 5 Tryz.underlying44 inz5 1 g2 17 221 (w8 (fun _ => 0)) rfl 0 17 17 s 16 (by rw [hs]; decide) (by decide) (w8 (pd (bt s) 16)) (fun j _ => pd_fn (bt s) 16 j) (fun _ => by kernel_rfl) fun u3 M => nT <| sR <| pA M 7 1 17 (w8 (pd (bt s) 16)) <| ZC M 8 (fun w M => c_number (pd (bt s) 16) w M.laid) fun u4 M => ZG M 0 5 (w64 (noF (pd (bt s) 16))) fun u5 M => nT <| wp_ret ?_
 exact bc Tryz.results133 M 0 5 (w64 (noF (pd (bt s) 16))) ⟨rfl, below_grown M.old⟩
theorem c_factor (s : Yb) (hs : s.size = 16) (w : World) (hL : Laid w)  : Cs 132 #[.string s] w (.agg (av 5 (w64 (noF (fc2 (fc1 (pd (bt s) 16))))))) := by
 go_enter Tryz.func132, Tryz.ntmps132
 have M := Mem.start hL
 refine sR <| pN M 2 (.cells (av 5 (w64 (fun _ => 0))) 192) fun g1 u1 M => nT <| sR <| pN M 3 (.cells (av 17 (w8 (fun _ => 0))) 221) fun g2 u2 M => nT <| sR <| rV 2 <| pl_copyS M (want_no rfl) (some 8) rfl 44 9 3 5 Tryz.underlying44 inz5 1 g2 17 221 (w8 (fun _ => 0)) rfl 0 17 17 s 16 (by rw [hs]; decide) (by decide) (w8 (pd (bt s) 16)) (fun j _ => pd_fn (bt s) 16 j) (fun _ => by kernel_rfl) fun u3 M => nT <| wp_seq <| sq <| wp_block <| wp_loop_rounds 5 ?_
 refine rounds_go <| wp_seq <| sq <| cT <| wp_skip <| au_then <| wp_seq <| wp_block <| rg_lit <| rV 2 <| ZE M 15 1 3 <| rV 2 <| ZP8 M 1 3 (nb8 ((pd (bt s) 16) 3) 15) fun u4 M => pl_nil <| au_block <| au_then ?_
 refine rg_lit <| rV 3 <| nT <| rounds_go <| wp_seq <| sq <| cT <| wp_skip <| au_then <| wp_seq <| wp_block <| rg_lit <| rV 2 <| ZE M 15 1 7 <| rV 2 <| ZP8 M 1 7 (nb8 ((pd (bt s) 16) 7) 15) fun u5 M => ?_
 refine pl_nil <| au_block <| au_then <| rg_lit <| rV 3 <| nT <| rounds_go <| wp_seq <| sq <| cT <| wp_skip <| au_then <| wp_seq <| wp_block <| rg_lit <| rV 2 ?_
 refine ZE M 15 1 11 <| rV 2 <| ZP8 M 1 11 (nb8 ((pd (bt s) 16) 11) 15) fun u6 M => pl_nil <| au_block <| au_then <| rg_lit <| rV 3 <| nT <| rounds_go <| wp_seq <| sq <| cT <| wp_skip <| au_then <| wp_seq ?_
 refine wp_block <| rg_lit <| rV 2 <| ZE M 15 1 15 <| rV 2 <| ZP8 M 1 15 (nb8 ((pd (bt s) 16) 15) 15) fun u7 M => pl_nil <| au_block <| au_then <| rg_lit <| rV 3 <| nT <| rounds_go <| wp_seq <| sq <| cF ?_
 refine wp_exit <| au_then_exit <| au_then_exit <| au_block_exit <| au_then <| wp_seq <| sR <| rV 1 <| nT <| wp_block <| wp_loop_rounds 4 ?_
 refine rounds_go <| wp_seq <| sq <| cT <| wp_skip <| au_then <| wp_seq <| wp_block <| rg_lit <| rV 2 <| ZE M 24 1 4 <| rV 2 <| ZP8 M 1 4 (db8 ((fc1 (pd (bt s) 16)) 4) 3) fun u8 M => pl_nil <| au_block <| au_then ?_
 refine rg_lit <| rV 3 <| nT <| rounds_go <| wp_seq <| sq <| cT <| wp_skip <| au_then <| wp_seq <| wp_block <| rg_lit <| rV 2 <| ZE M 24 1 8 <| rV 2 <| ZP8 M 1 8 (db8 ((fc1 (pd (bt s) 16)) 8) 3) fun u9 M => ?_
 refine pl_nil <| au_block <| au_then <| rg_lit <| rV 3 <| nT <| rounds_go <| wp_seq <| sq <| cT <| wp_skip <| au_then <| wp_seq <| wp_block <| rg_lit <| rV 2 ?_
 refine ZE M 24 1 12 <| rV 2 <| ZP8 M 1 12 (db8 ((fc1 (pd (bt s) 16)) 12) 3) fun u10 M => pl_nil <| au_block <| au_then <| rg_lit <| rV 3 <| nT <| rounds_go <| wp_seq <| sq <| cF <| wp_exit <| au_then_exit <| au_then_exit ?_
 refine au_block_exit <| au_then <| sR <| pA M 27 1 17 (w8 (fc2 (fc1 (pd (bt s) 16)))) <| ZC M 28 (fun w M => c_number (fc2 (fc1 (pd (bt s) 16))) w M.laid) fun u11 M => ZG M 0 5 (w64 (noF (fc2 (fc1 (pd (bt s) 16))))) fun u12 M => nT <| wp_ret ?_
 exact bc Tryz.results132 M 0 5 (w64 (noF (fc2 (fc1 (pd (bt s) 16))))) ⟨rfl, below_grown M.old⟩
theorem c_marked (b : NI) (n : Nat) (hn : n ≤ 16) (gq off cap : Nat) (w : World) (hL : Laid w) (hsrc : ∀ j, j < n → w.cell? ⟨gq, off + j, none⟩ = some (w8 b j)) : Cs 136 #[.slice (some ⟨gq, off, none⟩) n cap] w (.agg (av 5 (w64 (noF (mk b n))))) := by
 go_enter Tryz.func136, Tryz.ntmps136
 have M := Mem.start hL
 refine sR <| pN M 2 (.cells (av 5 (w64 (fun _ => 0))) 192) fun g1 u1 M => nT <| sR <| pN M 3 (.cells (av 17 (w8 (fun _ => 0))) 221) fun g2 u2 M => nT <| sR <| rV 2 <| pl_copyC M (want_no rfl) (some 6) rfl 44 44 3 5 Tryz.underlying44 inz5 1 g2 17 221 (w8 (fun _ => 0)) rfl gq (w8 b) 0 17 17 off n cap n (Nat.min_eq_left (by omega)).symm (by omega) (fun w M j hj => M.oldc (hsrc j hj) (by simp)) (fun _ => rfl) (w8 (pd b n)) (fun j _ => pd_fn b n j) (fun _ => by kernel_rfl) fun u3 M => ZX 7 .i64 g2 (n) 17 <| ZP8 M 1 n 1 fun u4 M => nT <| sR <| pA M 8 1 17 (w8 (mk b n)) <| ZC M 9 (fun w M => c_number (mk b n) w M.laid) fun u5 M => ZG M 0 5 (w64 (noF (mk b n))) fun u6 M => ?_
 refine nT <| wp_ret ?_
 exact bc Tryz.results136 M 0 5 (w64 (noF (mk b n))) ⟨rfl, below_grown M.old⟩
def p6 (a : NI) : Nat → Int := fun i => if i < 5 then a i else 0
theorem p6_fn (a : NI) (j : Nat) : (if 0 ≤ j ∧ j < 0 + 5 then w64 a (0 + (j - 0)) else w64 (fun _ => 0) j) = w64 (p6 a) j := by
 unfold w64 p6
 by_cases h : j < 5
 ·rw [if_pos (by omega), if_pos h, Nat.sub_zero, Nat.zero_add]
 ·rw [if_neg (by omega), if_neg h]
def tb (a : NI) (i : Nat) : Int := cv .u8 (sr (uo (p6 a (8 * i / 26)) (sl (p6 a (8 * i / 26 + 1)) 26)) (8 * i % 26))
def tbs (a : NI) : Nat → (Nat → Int)
 | 0 => fun _ => 0
 | j + 1 => upd (tbs a j) j (tb a j)
theorem cv8_nn (x : Int) : 0 ≤ cv .u8 x ∧ cv .u8 x < 256 := by
 unfold cv
 simp [IntKind.wrap, IntKind.signed, IntKind.bits]
 omega
theorem tbs_at (a : NI) : ∀ n, ∀ i, i < n → tbs a n i = tb a i
 | 0, i, h => absurd h (by omega)
 | n + 1, i, h => by
  unfold tbs upd
  by_cases e : i = n
  ·rw [if_pos e, e]
  ·rw [if_neg e, tbs_at a n i (by omega)]
theorem tbs_map (a : NI) : (List.range 16).map (tbs a 16) = (List.range 16).map (tb a) := List.map_congr_left fun i hi => tbs_at a 16 i (List.mem_range.1 hi)
theorem tb_nn (a : NI) : ∀ y ∈ (List.range 16).map (tb a), 0 ≤ y ∧ y < 256 := fun y hy => by
 obtain ⟨i, _, rfl⟩ := List.mem_map.1 hy
 exact cv8_nn _
def txS (a : NI) : ByteArray := bs ((List.range 16).map (tb (s5 a)))
theorem c_text (x : NI) (w : World) (hL : Laid w)  : Cs 139 #[.agg (av 5 (w64 x))] w (.string (txS x)) := by
 go_enter Tryz.func139, Tryz.ntmps139
 have M := Mem.start hL
 refine sR <| pN M 1 (.cells (av 5 (w64 x)) 192) fun g1 u1 M => rV 1 <| nT <| sR <| pA M 8 0 5 (w64 x) <| ZC M 9 (fun w M => c_settled x w M.laid) fun u2 M => rV 3 <| ZG M 0 5 (w64 (s5 x)) fun u3 M => nT <| sR <| pN M 3 (.cells (av 6 (w64 (fun _ => 0))) 227) fun g2 u4 M => nT <| wp_seq <| rg_tail M 2 (by kernel_rfl) (by kernel_rfl) ?_
 simp only [List.take_succ_cons, List.take_zero]
 refine kR 2 <| kl_nil fun u5 M => pl_copyB M (want_no rfl) (some 14) rfl 119 119 3 33 Tryz.underlying119 inz33 1 g2 6 227 (w64 (fun _ => 0)) rfl 0 g1 5 192 (w64 (s5 x)) rfl 0 6 6 0 5 5 5 rfl (by decide) (by decide) (fun _ _ => rfl) (w64 (p6 (s5 x))) (fun j _ => p6_fn (s5 x) j) (fun _ => by kernel_rfl) fun u6 M => nT <| sR <| pN M 4 (.cells (av 16 (w8 (fun _ => 0))) 228) fun g3 u7 M => nT <| wp_seq <| sq <| wp_block ?_
 refine au_loop (fun j a w' => ∃ v1 : NV, a = (fm ([.agg (av 5 (w64 x)), .pointer (some ⟨g1, 0, none⟩), .string ⟨#[]⟩, .pointer (some ⟨g2, 0, none⟩), .pointer (some ⟨g3, 0, none⟩)] ++ vr v1 5 10 ++ [.int .i64 (j : Int)] ++ vr v1 16 24)) ∧ Mem ⟨w, []⟩ [⟨g1, .cells (av 5 (w64 (s5 x))) 192⟩, ⟨g2, .cells (av 6 (w64 (p6 (s5 x)))) 227⟩, ⟨g3, .cells (av 16 (w8 (tbs (s5 x) j))) 228⟩] w') 16 (exS M) ?_ ?_
 ·intro j a u0 hj hI
  obtain ⟨v1, rfl, M⟩ := hI
  refine sR <| ZT 16 ((j : Int) < 16) <| nT <| wp_seq <| cT <| wp_skip <| au_then <| wp_seq <| wp_block <| sq <| sR <| rV 1 <| ZI 19 (8 * (j : Int)) ((8 * j : Nat) : Int) <| ZQ 20 .i64 (IntKind.wrap .i64 (((8 * j : Nat) : Int).tdiv 26)) (quo26 (8 * j) (by omega)) <| rV 1 <| nT ?_
  refine rg_tail M 16 (by kernel_rfl) (by kernel_rfl) ?_
  simp only [List.take_succ_cons, List.take_zero]
  refine kR 2 <| eX 23 .i64 g2 ((8 * j / 26 : Nat)) 6 <| eE M 24 1 ((8 * j / 26 : Nat)) <| kR 1 <| eI 26 (((8 * j / 26 : Nat) : Int) + 1) ((8 * j / 26 + 1 : Nat) : Int) <| eX 27 .i64 g2 ((8 * j / 26 + 1 : Nat)) 6 <| eE M 28 1 ((8 * j / 26 + 1 : Nat)) <| kR 3 <| eI 32 (8 * (j : Int)) ((8 * j : Nat) : Int) <| eQ 33 .i64 (Int.tmod ((8 * j : Nat) : Int) 26) (rem26 (8 * j)) <| kH 34 (.int .u64 (sr (uo (p6 (s5 x) (8 * j / 26)) (sl (p6 (s5 x) (8 * j / 26 + 1)) 26)) (8 * j % 26))) (run_shrU 33 3 _ _ rfl _ .i64 (8 * j % 26) (by kernel_rfl) (by kernel_rfl) (by omega)) <| kR 1 <| eX 36 .i64 g3 (j) 16 <| kl_nil fun u8 M => ZP8 M 2 j (cv .u8 (sr (uo (p6 (s5 x) (8 * j / 26)) (sl (p6 (s5 x) (8 * j / 26 + 1)) 26)) (8 * j % 26))) fun u9 M => pl_nil ?_
  refine au_block <| au_then <| rg_lit <| ZI 37 ((j : Int) + 1) ((j + 1 : Nat) : Int) <| rV 1 <| nT ?_
  exact exS M
 ·intro a u0 hI
  obtain ⟨v1, rfl, M⟩ := hI
  refine sR <| ZF 16 (16 < 16) <| nT <| wp_seq <| cF <| wp_exit <| au_then_exit <| au_then_exit <| au_block_exit <| au_then <| sR <| rV 1 <| pl_back M (want_no rfl) (some 39) rfl _ rfl 2 g3 16 16 (by kernel_rfl) _ rfl ((List.range 16).map (tbs (s5 x) 16)) 16 (sb_av 16 _ _) (by simp) (by rw [tbs_map]; exact tb_nn _) ?_
  rw [tbs_map]
  refine rV 1 <| nT <| wp_ret ?_
  exact b1 M
open Go.RowKit
def tr (P a b : NI) (i : Nat) : Nat → (Nat → Int)
 | 0 => P
 | j + 1 => upd (tr P a b i j) (i + j) (ua (tr P a b i j (i + j)) (um (a i) (b j)))
def tp (n : Nat) (a b : NI) : Nat → (Nat → Int)
 | 0 => fun _ => 0
 | i + 1 => tr (tp n a b i) a b i n
def tlo (P : NI) : Nat → (Nat → Int)
 | 0 => P
 | j + 1 => upd (tlo P j) j (ua (tlo P j j) (um (P (5 + j)) 5))
def tmF (a b : NI) : Nat → Int := crF (tlo (tp 5 a b 5) 4)
theorem cp_fn (a : NI) (j : Nat) (hj : j < 5) : (if 0 ≤ j ∧ j < 0 + 5 then w64 a (0 + (j - 0)) else w64 (fun _ => 0) j) = w64 a j := by
 rw [if_pos (by omega), Nat.sub_zero, Nat.zero_add]
theorem c_times (x y : NI) (w : World) (hL : Laid w)  : Cs 137 #[.agg (av 5 (w64 x)), .agg (av 5 (w64 y))] w (.agg (av 5 (w64 (tmF x y)))) := by
 go_enter Tryz.func137, Tryz.ntmps137
 have M := Mem.start hL
 refine sR <| pN M 2 (.cells (av 5 (w64 x)) 192) fun g1 u1 M => pN M 3 (.cells (av 5 (w64 y)) 192) fun g2 u2 M => pN M 4 (.cells (av 5 (w64 (fun _ => 0))) 192) fun g3 u3 M => nT <| sR <| pN M 5 (.cells (av 9 (w64 (fun _ => 0))) 224) fun g4 u4 M => nT <| wp_seq <| sR <| pA M 13 0 5 (w64 x) <| rV 1 <| nT <| wp_block ?_
 refine au_loop (fun i a w' => ∃ v1 : NV, a = (fm ([.agg (av 5 (w64 x)), .agg (av 5 (w64 y)), .pointer (some ⟨g1, 0, none⟩), .pointer (some ⟨g2, 0, none⟩), .pointer (some ⟨g3, 0, none⟩), .pointer (some ⟨g4, 0, none⟩)] ++ vr v1 6 7 ++ [.agg (av 5 (w64 x)), .int .i64 (i : Int)] ++ vr v1 15 40)) ∧ Mem ⟨w, []⟩ [⟨g1, .cells (av 5 (w64 x)) 192⟩, ⟨g2, .cells (av 5 (w64 y)) 192⟩, ⟨g3, .cells (av 5 (w64 (fun _ => 0))) 192⟩, ⟨g4, .cells (av 9 (w64 (tp 5 x y i))) 224⟩] w') 5 (exS M) ?_ ?_
 ·intro i a u0 hi hI
  obtain ⟨v1, rfl, M⟩ := hI
  refine sR <| ZT 15 ((i : Int) < 5) <| nT <| wp_seq <| cT <| wp_skip <| au_then <| wp_seq <| wp_block <| sR <| rV 1 <| pH 17 (.int .u64 (x (i))) (run_ixA 192 5 33 Tryz.underlying192 inz33 (fun _ => by kernel_rfl) _ _ rfl (w64 x) (by kernel_rfl) .i64 (i) (by kernel_rfl) (by omega) rfl) <| rV 2 <| nT <| sR <| pA M 18 1 5 (w64 y) ?_
  refine rV 1 <| nT <| wp_block ?_
  refine au_loop (fun j a w' => ∃ v2 : NV, a = (fm ([.agg (av 5 (w64 x)), .agg (av 5 (w64 y)), .pointer (some ⟨g1, 0, none⟩), .pointer (some ⟨g2, 0, none⟩), .pointer (some ⟨g3, 0, none⟩), .pointer (some ⟨g4, 0, none⟩), .int .i64 (i : Int), .int .u64 (x (i))] ++ vr v2 8 5 ++ [.agg (av 5 (w64 x)), .int .i64 (i : Int)] ++ vr v2 15 3 ++ [.agg (av 5 (w64 y)), .int .i64 (j : Int)] ++ vr v2 20 35)) ∧ Mem ⟨w, []⟩ [⟨g1, .cells (av 5 (w64 x)) 192⟩, ⟨g2, .cells (av 5 (w64 y)) 192⟩, ⟨g3, .cells (av 5 (w64 (fun _ => 0))) 192⟩, ⟨g4, .cells (av 9 (w64 (tr (tp 5 x y i) x y i j))) 224⟩] w') 5 (exS M) ?_ ?_
  ·intro j a u0 hj hI
   obtain ⟨v2, rfl, M⟩ := hI
   refine sR <| ZT 20 ((j : Int) < 5) <| nT <| wp_seq <| cT <| wp_skip <| au_then <| wp_seq <| wp_block <| sR <| rV 1 <| pH 22 (.int .u64 (y (j))) (run_ixA 192 5 33 Tryz.underlying192 inz33 (fun _ => by kernel_rfl) _ _ rfl (w64 y) (by kernel_rfl) .i64 (j) (by kernel_rfl) (by omega) rfl) <| rV 2 <| nT <| rg_lit <| rV 2 ?_
   refine ZI 25 ((i : Int) + (j : Int)) ((i + j : Nat) : Int) <| ZX 26 .i64 g4 ((i + j : Nat)) 9 <| ZE M 27 3 ((i + j : Nat)) <| rV 4 <| ZX 32 .i64 g4 ((i + j : Nat)) 9 <| ZP64 M 3 ((i + j : Nat)) (ua ((tr (tp 5 x y i) x y i j) ((i + j : Nat))) (um (x (i)) (y (j)))) fun u5 M => pl_nil <| au_block <| au_then <| rg_lit <| ZI 33 ((j : Int) + 1) ((j + 1 : Nat) : Int) <| rV 1 <| nT ?_
   exact exS M
  ·intro a u0 hI
   obtain ⟨v2, rfl, M⟩ := hI
   refine sR <| ZF 20 (5 < 5) <| nT <| wp_seq <| cF <| wp_exit <| au_then_exit <| au_then_exit <| au_block_exit <| au_block <| au_then <| rg_lit <| ZI 34 ((i : Int) + 1) ((i + 1 : Nat) : Int) <| rV 1 <| nT ?_
   exact exS M
 ·intro a u0 hI
  obtain ⟨v1, rfl, M⟩ := hI
  refine sR <| ZF 15 (5 < 5) <| nT <| wp_seq <| cF <| wp_exit <| au_then_exit <| au_then_exit <| au_block_exit <| au_then <| sR <| pN M 10 (.cells (av 5 (w64 (fun _ => 0))) 192) fun g5 u6 M => nT <| wp_seq <| rg_tail M 2 (by kernel_rfl) (by kernel_rfl) ?_
  simp only [List.take_succ_cons, List.take_zero]
  refine kR 2 <| kl_nil fun u7 M => pl_copyB M (want_no rfl) (some 37) rfl 119 119 3 33 Tryz.underlying119 inz33 4 g5 5 192 (w64 (fun _ => 0)) rfl 3 g4 9 224 (w64 (tp 5 x y 5)) rfl 0 5 5 0 5 9 5 rfl (by decide) (by decide) (fun _ _ => rfl) (w64 (tp 5 x y 5)) (fun j hj => cp_fn (tp 5 x y 5) j hj) (fun _ => by kernel_rfl) fun u8 M => nT <| wp_seq <| sq <| wp_block ?_
  refine au_loop (fun j a w' => ∃ v3 : NV, a = (fm ([.agg (av 5 (w64 x)), .agg (av 5 (w64 y)), .pointer (some ⟨g1, 0, none⟩), .pointer (some ⟨g2, 0, none⟩), .pointer (some ⟨g3, 0, none⟩), .pointer (some ⟨g4, 0, none⟩)] ++ vr v3 6 4 ++ [.pointer (some ⟨g5, 0, none⟩)] ++ vr v3 11 2 ++ [.agg (av 5 (w64 x)), .int .i64 (5 : Int)] ++ vr v3 15 23 ++ [.slice (some ⟨g4, 5, none⟩) 4 4, .int .i64 4, .int .i64 (j : Int)] ++ vr v3 41 14)) ∧ Mem ⟨w, []⟩ [⟨g1, .cells (av 5 (w64 x)) 192⟩, ⟨g2, .cells (av 5 (w64 y)) 192⟩, ⟨g3, .cells (av 5 (w64 (fun _ => 0))) 192⟩, ⟨g4, .cells (av 9 (w64 (tp 5 x y 5))) 224⟩, ⟨g5, .cells (av 5 (w64 (tlo (tp 5 x y 5) j))) 192⟩] w') 4 (exS M) ?_ ?_
  ·intro j a u0 hj hI
   obtain ⟨v3, rfl, M⟩ := hI
   refine sR <| ZT 41 ((j : Int) < 4) <| nT <| wp_seq <| cT <| wp_skip <| au_then <| wp_seq <| wp_block <| sR <| rV 1 <| pH 43 (.pointer (some ⟨g4, (5 + j), none⟩)) (run_ixL 119 33 Tryz.underlying119 inz33 _ _ rfl g4 5 4 4 (by kernel_rfl) .i64 j (by kernel_rfl) hj) <| ZE M 44 3 (5 + j) <| rV 2 <| nT <| rg_lit ?_
   refine rV 1 <| ZX 46 .i64 g5 (j) 5 <| ZE M 47 4 j <| rV 3 <| ZX 51 .i64 g5 (j) 5 <| ZP64 M 4 j (ua ((tlo (tp 5 x y 5) j) j) (um ((tp 5 x y 5) (5 + j)) 5)) fun u9 M => pl_nil <| au_block <| au_then <| rg_lit <| ZI 52 ((j : Int) + 1) ((j + 1 : Nat) : Int) <| rV 1 <| nT ?_
   exact exS M
  ·intro a u0 hI
   obtain ⟨v3, rfl, M⟩ := hI
   refine sR <| ZF 41 (4 < 4) <| nT <| wp_seq <| cF <| wp_exit <| au_then_exit <| au_then_exit <| au_block_exit <| au_then <| sR <| pA M 53 4 5 (w64 (tlo (tp 5 x y 5) 4)) <| ZC M 54 (fun w M => c_carried (tlo (tp 5 x y 5) 4) w M.laid) fun u10 M => ZG M 2 5 (w64 (crF (tlo (tp 5 x y 5) 4))) fun u11 M => nT <| wp_ret ?_
   exact bc Tryz.results137 M 2 5 (w64 (crF (tlo (tp 5 x y 5) 4))) ⟨rfl, below_grown M.old⟩
open Go.RowKit
theorem st_ge (m : Int) (sh : Nat) (a : NI) : ∀ j i, j ≤ i → st m sh a j i = a i
 | 0, _, _ => rfl
 | j + 1, i, h => by
  unfold st upd
  rw [if_neg (by omega), st_ge m sh a j i (by omega)]
theorem st_cell (m : Int) (sh : Nat) (a : NI) (j : Nat) : w64 (st m sh a j) j = .int .u64 (a j) := by
 unfold w64
 rw [st_ge m sh a j j (Nat.le_refl _)]
def dch (a : NI) : Nat → Int := st 255 8 a 18
def dtop (a : NI) : Int := uo (uo (sr (dch a 16) 2) (sl (dch a 17) 6)) (sl (cy 8 a 18) 14)
def d0 (a : NI) : Nat → Int := upd (upd (dch a) 16 (un (dch a 16) 3)) 17 0
def d1 (a : NI) : Nat → Int := upd (d0 a) 0 (ua (d0 a 0) (um 5 (dtop a)))
def dr (a : NI) : Nat → (Nat → Int)
 | 0 => a
 | j + 1 => d1 (dr a j)
def dcF (a : NI) : Nat → Int := st 255 8 (dr a 3) 18
theorem d_carry (x : NI) (w : World) (hL : Laid w)  : Cs 80 #[.agg (av 18 (w64 x))] w (.agg (av 18 (w64 (dcF x)))) := by
 go_enter Tryz.func80, Tryz.ntmps80
 have M := Mem.start hL
 refine sR <| pN M 1 (.cells (av 18 (w64 x)) 128) fun g1 u1 M => pN M 2 (.cells (av 18 (w64 (fun _ => 0))) 128) fun g2 u2 M => nT <| wp_seq <| sq <| wp_block ?_
 refine au_loop (fun i a w' => ∃ v1 : NV, a = (fm ([.agg (av 18 (w64 x)), .pointer (some ⟨g1, 0, none⟩), .pointer (some ⟨g2, 0, none⟩), .int .i64 (i : Int)] ++ vr v1 4 63)) ∧ Mem ⟨w, []⟩ [⟨g1, .cells (av 18 (w64 (dr x i))) 128⟩, ⟨g2, .cells (av 18 (w64 (fun _ => 0))) 128⟩] w') 3 (exS M) ?_ ?_
 ·intro i a u0 hi hI
  obtain ⟨v1, rfl, M⟩ := hI
  refine wp_seq <| sR <| rV 1 <| ZT 12 ((i : Int) < 3) <| nT <| cT <| wp_skip <| au_then <| wp_seq <| wp_block <| sq <| wp_seq <| sq <| wp_block ?_
  refine au_loop (fun j a w' => ∃ v2 : NV, a = (fm ([.agg (av 18 (w64 x)), .pointer (some ⟨g1, 0, none⟩), .pointer (some ⟨g2, 0, none⟩), .int .i64 (i : Int), .int .u64 (cy 8 (dr x i) j), .int .i64 (j : Int)] ++ vr v2 6 61)) ∧ Mem ⟨w, []⟩ [⟨g1, .cells (av 18 (w64 (st 255 8 (dr x i) j))) 128⟩, ⟨g2, .cells (av 18 (w64 (fun _ => 0))) 128⟩] w') 18 (exS M) ?_ ?_
  ·intro j a u0 hj hI
   obtain ⟨v2, rfl, M⟩ := hI
   refine wp_seq <| sR <| rV 1 <| ZT 16 ((j : Int) < 18) <| nT <| cT <| wp_skip <| au_then <| wp_seq <| wp_block <| sR <| rV 1 <| ZX 20 .i64 g1 (j) 18 <| pE M 21 g1 j (.int .u64 ((dr x i) j)) (fun w M => M.cell 0 rfl (by omega) (st_cell 255 8 (dr x i) j)) <| rV 3 <| nT ?_
   refine sR <| rV 3 <| ZX 27 .i64 g1 (j) 18 <| ZP64 M 0 j (un (ua ((dr x i) j) (cy 8 (dr x i) j)) 255) fun u3 M => nT <| rg_lit <| rV 3 <| pl_nil <| au_block <| au_then <| rg_lit <| rV 1 <| ZI 18 ((j : Int) + 1) ((j + 1 : Nat) : Int) <| rV 1 <| nT ?_
   exact exS M
  ·intro a u0 hI
   obtain ⟨v2, rfl, M⟩ := hI
   refine wp_seq <| sR <| rV 1 <| ZF 16 (18 < 18) <| nT <| cF <| wp_exit <| au_then_exit <| au_then_exit <| au_block_exit <| au_then <| sR <| rV 1 <| ZE M 31 0 16 <| rV 2 <| ZE M 34 0 17 ?_
   refine rV 6 <| nT <| sR <| rV 1 <| ZE M 41 0 16 <| rV 2 <| ZP64 M 0 16 (un ((dch (dr x i)) 16) 3) fun u4 M => nT ?_
   refine sR <| rV 1 <| ZP64 M 0 17 0 fun u5 M => nT ?_
   refine rg_lit <| rV 1 <| ZE M 46 0 0 <| rV 4 ?_
   refine ZP64 M 0 0 (ua ((d0 (dr x i)) 0) (um 5 (dtop (dr x i)))) fun u6 M => pl_nil <| au_block <| au_then <| rg_lit <| rV 1 <| ZI 14 ((i : Int) + 1) ((i + 1 : Nat) : Int) <| rV 1 <| nT ?_
   exact exS M
 ·intro a u0 hI
  obtain ⟨v1, rfl, M⟩ := hI
  refine wp_seq <| sR <| rV 1 <| ZF 12 (3 < 3) <| nT <| cF <| wp_exit <| au_then_exit <| au_then_exit <| au_block_exit <| au_then <| sq <| wp_seq <| sq <| wp_block ?_
  refine au_loop (fun j a w' => ∃ v3 : NV, a = (fm ([.agg (av 18 (w64 x)), .pointer (some ⟨g1, 0, none⟩), .pointer (some ⟨g2, 0, none⟩), .int .i64 (3 : Int)] ++ vr v3 4 4 ++ [.int .u64 (cy 8 (dr x 3) j), .int .i64 (j : Int)] ++ vr v3 10 57)) ∧ Mem ⟨w, []⟩ [⟨g1, .cells (av 18 (w64 (st 255 8 (dr x 3) j))) 128⟩, ⟨g2, .cells (av 18 (w64 (fun _ => 0))) 128⟩] w') 18 (exS M) ?_ ?_
  ·intro j a u0 hj hI
   obtain ⟨v3, rfl, M⟩ := hI
   refine wp_seq <| sR <| rV 1 <| ZT 52 ((j : Int) < 18) <| nT <| cT <| wp_skip <| au_then <| wp_seq <| wp_block <| sR <| rV 1 <| ZX 56 .i64 g1 (j) 18 <| pE M 57 g1 j (.int .u64 ((dr x 3) j)) (fun w M => M.cell 0 rfl (by omega) (st_cell 255 8 (dr x 3) j)) <| rV 3 <| nT ?_
   refine sR <| rV 3 <| ZX 63 .i64 g1 (j) 18 <| ZP64 M 0 j (un (ua ((dr x 3) j) (cy 8 (dr x 3) j)) 255) fun u7 M => nT <| rg_lit <| rV 3 <| pl_nil <| au_block <| au_then <| rg_lit <| rV 1 <| ZI 54 ((j : Int) + 1) ((j + 1 : Nat) : Int) <| rV 1 <| nT ?_
   exact exS M
  ·intro a u0 hI
   obtain ⟨v3, rfl, M⟩ := hI
   refine wp_seq <| sR <| rV 1 <| ZF 52 (18 < 18) <| nT <| cF <| wp_exit <| au_then_exit <| au_then_exit <| au_block_exit <| au_then <| sR <| pA M 66 0 18 (w64 (st 255 8 (dr x 3) 18)) <| ZG M 1 18 (w64 (st 255 8 (dr x 3) 18)) fun u8 M => nT <| wp_ret ?_
   exact bc Tryz.results80 M 1 18 (w64 (st 255 8 (dr x 3) 18)) ⟨rfl, below_grown M.old⟩
def dT (a b : NI) : Nat → Int := st 255 8 (tp 18 a b 18) 36
def dlo (T : NI) : Nat → (Nat → Int)
 | 0 => fun _ => 0
 | j + 1 => upd (dlo T j) j (T j)
def dhi (T : NI) : Nat → (Nat → Int)
 | 0 => fun _ => 0
 | j + 1 => upd (dhi T j) j (uo (sr (T (16 + j)) 2) (un (sl (T (17 + j)) 6) 255))
def dl2 (T : NI) : Nat → Int := upd (dlo T 17) 16 (un (dlo T 17 16) 3)
def dl3 (T : NI) : Nat → (Nat → Int)
 | 0 => dl2 T
 | j + 1 => upd (dl3 T j) j (ua (dl3 T j j) (um 5 (dhi T 17 j)))
def dtF (a b : NI) : Nat → Int := dcF (dl3 (dT a b) 18)
theorem d_times (x y : NI) (w : World) (hL : Laid w)  : Cs 79 #[.agg (av 18 (w64 x)), .agg (av 18 (w64 y))] w (.agg (av 18 (w64 (dtF x y)))) := by
 go_enter Tryz.func79, Tryz.ntmps79
 have M := Mem.start hL
 refine sR <| pN M 2 (.cells (av 18 (w64 x)) 128) fun g1 u1 M => pN M 3 (.cells (av 18 (w64 y)) 128) fun g2 u2 M => pN M 4 (.cells (av 18 (w64 (fun _ => 0))) 128) fun g3 u3 M => nT <| sR <| pN M 5 (.cells (av 36 (w64 (fun _ => 0))) 157) fun g4 u4 M => nT <| wp_seq <| sq <| wp_block ?_
 refine au_loop (fun i a w' => ∃ v1 : NV, a = (fm ([.agg (av 18 (w64 x)), .agg (av 18 (w64 y)), .pointer (some ⟨g1, 0, none⟩), .pointer (some ⟨g2, 0, none⟩), .pointer (some ⟨g3, 0, none⟩), .pointer (some ⟨g4, 0, none⟩), .int .i64 (i : Int)] ++ vr v1 7 91)) ∧ Mem ⟨w, []⟩ [⟨g1, .cells (av 18 (w64 x)) 128⟩, ⟨g2, .cells (av 18 (w64 y)) 128⟩, ⟨g3, .cells (av 18 (w64 (fun _ => 0))) 128⟩, ⟨g4, .cells (av 36 (w64 (tp 18 x y i))) 157⟩] w') 18 (exS M) ?_ ?_
 ·intro i a u0 hi hI
  obtain ⟨v1, rfl, M⟩ := hI
  refine wp_seq <| sR <| rV 1 <| ZT 16 ((i : Int) < 18) <| nT <| cT <| wp_skip <| au_then <| wp_seq <| wp_block <| sq <| wp_block ?_
  refine au_loop (fun j a w' => ∃ v2 : NV, a = (fm ([.agg (av 18 (w64 x)), .agg (av 18 (w64 y)), .pointer (some ⟨g1, 0, none⟩), .pointer (some ⟨g2, 0, none⟩), .pointer (some ⟨g3, 0, none⟩), .pointer (some ⟨g4, 0, none⟩), .int .i64 (i : Int), .int .i64 (j : Int)] ++ vr v2 8 90)) ∧ Mem ⟨w, []⟩ [⟨g1, .cells (av 18 (w64 x)) 128⟩, ⟨g2, .cells (av 18 (w64 y)) 128⟩, ⟨g3, .cells (av 18 (w64 (fun _ => 0))) 128⟩, ⟨g4, .cells (av 36 (w64 (tr (tp 18 x y i) x y i j))) 157⟩] w') 18 (exS M) ?_ ?_
  ·intro j a u0 hj hI
   obtain ⟨v2, rfl, M⟩ := hI
   refine wp_seq <| sR <| rV 1 <| ZT 20 ((j : Int) < 18) <| nT <| cT <| wp_skip <| au_then <| wp_seq <| wp_block <| rg_tail M 17 (by kernel_rfl) (by kernel_rfl) ?_
   simp only [List.take_succ_cons, List.take_zero]
   refine kR 2 <| eI 25 ((i : Int) + (j : Int)) ((i + j : Nat) : Int) <| kR 2 <| eI 28 ((i : Int) + (j : Int)) ((i + j : Nat) : Int) <| eX 29 .i64 g4 ((i + j : Nat)) 36 <| eE M 30 3 ((i + j : Nat)) <| kR 1 <| eX 32 .i64 g1 (i) 18 <| eE M 33 0 i <| kR 1 <| eX 35 .i64 g2 (j) 18 <| eE M 36 1 j <| kR 2 <| eX 39 .i64 g4 ((i + j : Nat)) 36 <| kl_nil fun u5 M => ZP64 M 3 ((i + j : Nat)) (ua ((tr (tp 18 x y i) x y i j) ((i + j : Nat))) (um (x i) (y j))) fun u6 M => ?_
   refine pl_nil <| au_block <| au_then <| rg_lit <| rV 1 <| ZI 22 ((j : Int) + 1) ((j + 1 : Nat) : Int) <| rV 1 <| nT ?_
   exact exS M
  ·intro a u0 hI
   obtain ⟨v2, rfl, M⟩ := hI
   refine wp_seq <| sR <| rV 1 <| ZF 20 (18 < 18) <| nT <| cF <| wp_exit <| au_then_exit <| au_then_exit <| au_block_exit <| au_block <| au_then <| rg_lit <| rV 1 <| ZI 18 ((i : Int) + 1) ((i + 1 : Nat) : Int) <| rV 1 ?_
   refine nT ?_
   exact exS M
 ·intro a u0 hI
  obtain ⟨v1, rfl, M⟩ := hI
  refine wp_seq <| sR <| rV 1 <| ZF 16 (18 < 18) <| nT <| cF <| wp_exit <| au_then_exit <| au_then_exit <| au_block_exit <| au_then <| sq <| wp_seq <| sq <| wp_block ?_
  refine au_loop (fun j a w' => ∃ v3 : NV, a = (fm ([.agg (av 18 (w64 x)), .agg (av 18 (w64 y)), .pointer (some ⟨g1, 0, none⟩), .pointer (some ⟨g2, 0, none⟩), .pointer (some ⟨g3, 0, none⟩), .pointer (some ⟨g4, 0, none⟩), .int .i64 (18 : Int), v3 7, .int .u64 (cy 8 (tp 18 x y 18) j), .int .i64 (j : Int)] ++ vr v3 10 88)) ∧ Mem ⟨w, []⟩ [⟨g1, .cells (av 18 (w64 x)) 128⟩, ⟨g2, .cells (av 18 (w64 y)) 128⟩, ⟨g3, .cells (av 18 (w64 (fun _ => 0))) 128⟩, ⟨g4, .cells (av 36 (w64 (st 255 8 (tp 18 x y 18) j))) 157⟩] w') 36 (exS M) ?_ ?_
  ·intro j a u0 hj hI
   obtain ⟨v3, rfl, M⟩ := hI
   refine wp_seq <| sR <| rV 1 <| ZT 41 ((j : Int) < 36) <| nT <| cT <| wp_skip <| au_then <| wp_seq <| wp_block <| sR <| rV 1 <| ZX 45 .i64 g4 (j) 36 <| pE M 46 g4 j (.int .u64 ((tp 18 x y 18) j)) (fun w M => M.cell 3 rfl (by omega) (st_cell 255 8 (tp 18 x y 18) j)) <| rV 3 <| nT ?_
   refine sR <| rV 3 <| ZX 52 .i64 g4 (j) 36 <| ZP64 M 3 j (un (ua ((tp 18 x y 18) j) (cy 8 (tp 18 x y 18) j)) 255) fun u7 M => nT <| rg_lit <| rV 3 <| pl_nil <| au_block <| au_then <| rg_lit <| rV 1 <| ZI 43 ((j : Int) + 1) ((j + 1 : Nat) : Int) <| rV 1 <| nT ?_
   exact exS M
  ·intro a u0 hI
   obtain ⟨v3, rfl, M⟩ := hI
   refine wp_seq <| sR <| rV 1 <| ZF 41 (36 < 36) <| nT <| cF <| wp_exit <| au_then_exit <| au_then_exit <| au_block_exit <| au_then <| sR <| pN M 11 (.cells (av 18 (w64 (fun _ => 0))) 128) fun g5 u8 M => pN M 12 (.cells (av 18 (w64 (fun _ => 0))) 128) fun g6 u9 M => nT <| wp_seq ?_
   refine sq <| wp_block ?_
   refine au_loop (fun j a w' => ∃ v4 : NV, a = (fm ([.agg (av 18 (w64 x)), .agg (av 18 (w64 y)), .pointer (some ⟨g1, 0, none⟩), .pointer (some ⟨g2, 0, none⟩), .pointer (some ⟨g3, 0, none⟩), .pointer (some ⟨g4, 0, none⟩), .int .i64 (18 : Int), v4 7, .int .u64 (cy 8 (tp 18 x y 18) 36), .int .i64 (36 : Int), v4 10, .pointer (some ⟨g5, 0, none⟩), .pointer (some ⟨g6, 0, none⟩), .int .i64 (j : Int)] ++ vr v4 14 84)) ∧ Mem ⟨w, []⟩ [⟨g1, .cells (av 18 (w64 x)) 128⟩, ⟨g2, .cells (av 18 (w64 y)) 128⟩, ⟨g3, .cells (av 18 (w64 (fun _ => 0))) 128⟩, ⟨g4, .cells (av 36 (w64 (dT x y))) 157⟩, ⟨g5, .cells (av 18 (w64 (dlo (dT x y) j))) 128⟩, ⟨g6, .cells (av 18 (w64 (dhi (dT x y) j))) 128⟩] w') 17 (exS M) ?_ ?_
   ·intro j a u0 hj hI
    obtain ⟨v4, rfl, M⟩ := hI
    refine wp_seq <| sR <| rV 1 <| ZT 56 ((j : Int) < 17) <| nT <| cT <| wp_skip <| au_then <| wp_seq <| wp_block <| sR <| rV 2 <| ZX 61 .i64 g4 (j) 36 <| ZE M 62 3 j <| ZX 63 .i64 g5 (j) 18 <| ZP64 M 4 j ((dT x y) j) fun u10 M => ?_
    refine nT <| rg_tail M 14 (by kernel_rfl) (by kernel_rfl) ?_
    simp only [List.take_succ_cons, List.take_zero]
    refine kR 2 <| eI 66 (16 + (j : Int)) ((16 + j : Nat) : Int) <| eX 67 .i64 g4 ((16 + j : Nat)) 36 <| eE M 68 3 ((16 + j : Nat)) <| kR 2 <| eI 71 (17 + (j : Int)) ((17 + j : Nat) : Int) <| eX 72 .i64 g4 ((17 + j : Nat)) 36 <| eE M 73 3 ((17 + j : Nat)) <| kR 3 <| eX 77 .i64 g6 (j) 18 <| kl_nil fun u11 M => ZP64 M 5 j (uo (sr ((dT x y) ((16 + j : Nat))) 2) (un (sl ((dT x y) ((17 + j : Nat))) 6) 255)) fun u12 M => pl_nil <| au_block <| au_then <| rg_lit ?_
    refine rV 1 <| ZI 58 ((j : Int) + 1) ((j + 1 : Nat) : Int) <| rV 1 <| nT ?_
    exact exS M
   ·intro a u0 hI
    obtain ⟨v4, rfl, M⟩ := hI
    refine wp_seq <| sR <| rV 1 <| ZF 56 (17 < 17) <| nT <| cF <| wp_exit <| au_then_exit <| au_then_exit <| au_block_exit <| au_then <| sR <| rV 1 <| ZE M 79 4 16 <| rV 2 <| ZP64 M 4 16 (un ((dlo (dT x y) 17) 16) 3) fun u13 M => ?_
    refine nT <| wp_seq <| sq <| wp_block ?_
    refine au_loop (fun j a w' => ∃ v5 : NV, a = (fm ([.agg (av 18 (w64 x)), .agg (av 18 (w64 y)), .pointer (some ⟨g1, 0, none⟩), .pointer (some ⟨g2, 0, none⟩), .pointer (some ⟨g3, 0, none⟩), .pointer (some ⟨g4, 0, none⟩), .int .i64 (18 : Int), v5 7, .int .u64 (cy 8 (tp 18 x y 18) 36), .int .i64 (36 : Int), v5 10, .pointer (some ⟨g5, 0, none⟩), .pointer (some ⟨g6, 0, none⟩), .int .i64 (17 : Int), .int .i64 (j : Int)] ++ vr v5 15 83)) ∧ Mem ⟨w, []⟩ [⟨g1, .cells (av 18 (w64 x)) 128⟩, ⟨g2, .cells (av 18 (w64 y)) 128⟩, ⟨g3, .cells (av 18 (w64 (fun _ => 0))) 128⟩, ⟨g4, .cells (av 36 (w64 (dT x y))) 157⟩, ⟨g5, .cells (av 18 (w64 (dl3 (dT x y) j))) 128⟩, ⟨g6, .cells (av 18 (w64 (dhi (dT x y) 17))) 128⟩] w') 18 (exS M) ?_ ?_
    ·intro j a u0 hj hI
     obtain ⟨v5, rfl, M⟩ := hI
     refine wp_seq <| sR <| rV 1 <| ZT 83 ((j : Int) < 18) <| nT <| cT <| wp_skip <| au_then <| wp_seq <| wp_block <| rg_tail M 10 (by kernel_rfl) (by kernel_rfl) ?_
     simp only [List.take_succ_cons, List.take_zero]
     refine kR 2 <| eX 88 .i64 g5 (j) 18 <| eE M 89 4 j <| kR 1 <| eX 91 .i64 g6 (j) 18 <| eE M 92 5 j <| kR 2 <| eX 95 .i64 g5 (j) 18 <| kl_nil fun u14 M => ZP64 M 4 j (ua ((dl3 (dT x y) j) j) (um 5 ((dhi (dT x y) 17) j))) fun u15 M => pl_nil <| au_block <| au_then <| rg_lit <| rV 1 <| ZI 85 ((j : Int) + 1) ((j + 1 : Nat) : Int) ?_
     refine rV 1 <| nT ?_
     exact exS M
    ·intro a u0 hI
     obtain ⟨v5, rfl, M⟩ := hI
     refine wp_seq <| sR <| rV 1 <| ZF 83 (18 < 18) <| nT <| cF <| wp_exit <| au_then_exit <| au_then_exit <| au_block_exit <| au_then <| sR <| pA M 96 4 18 (w64 (dl3 (dT x y) 18)) <| ZC M 97 (fun w M => d_carry (dl3 (dT x y) 18) w M.laid) fun u16 M => ZG M 2 18 (w64 (dcF (dl3 (dT x y) 18))) fun u17 M => nT ?_
     refine wp_ret ?_
     exact bc Tryz.results79 M 2 18 (w64 (dcF (dl3 (dT x y) 18))) ⟨rfl, below_grown M.old⟩
def dg (a : NI) : Nat → Int := upd (dcF a) 0 (ua (dcF a 0) 5)
def dG (a : NI) : Nat → Int := st 255 8 (dg a) 18
def dwF (a : NI) : Nat → Int := if 4 ≤ dG a 16 then upd (dG a) 16 (un (dG a 16) 3) else dcF a
theorem d_wholeA (x : NI) (h : 4 ≤ dG x 16) (w : World) (hL : Laid w)  : Cs 81 #[.agg (av 18 (w64 x))] w (.agg (av 18 (w64 (upd (dG x) 16 (un ((dG x) 16) 3))))) := by
 go_enter Tryz.func81, Tryz.ntmps81
 have M := Mem.start hL
 refine sR <| pN M 1 (.cells (av 18 (w64 x)) 128) fun g1 u1 M => pN M 2 (.cells (av 18 (w64 (fun _ => 0))) 128) fun g2 u2 M => nT <| sR <| pA M 7 0 18 (w64 x) <| ZC M 8 (fun w M => d_carry x w M.laid) fun u3 M => ZG M 0 18 (w64 (dcF x)) fun u4 M => nT <| sR <| pA M 9 0 18 (w64 (dcF x)) <| pN M 3 (.cells (av 18 (w64 (fun _ => 0))) 128) fun g3 u5 M => ZG M 2 18 (w64 (dcF x)) fun u6 M => nT <| sR <| rV 1 ?_
 refine ZE M 11 2 0 <| rV 2 <| ZP64 M 2 0 (ua ((dcF x) 0) 5) fun u7 M => nT <| sq <| wp_seq <| sq <| wp_block ?_
 refine au_loop (fun j a w' => ∃ v1 : NV, a = (fm ([.agg (av 18 (w64 x)), .pointer (some ⟨g1, 0, none⟩), .pointer (some ⟨g2, 0, none⟩), .pointer (some ⟨g3, 0, none⟩), .int .u64 (cy 8 (dg x) j), .int .i64 (j : Int)] ++ vr v1 6 32)) ∧ Mem ⟨w, []⟩ [⟨g1, .cells (av 18 (w64 (dcF x))) 128⟩, ⟨g2, .cells (av 18 (w64 (fun _ => 0))) 128⟩, ⟨g3, .cells (av 18 (w64 (st 255 8 (dg x) j))) 128⟩] w') 18 (exS M) ?_ ?_
 ·intro j a u0 hj hI
  obtain ⟨v1, rfl, M⟩ := hI
  refine wp_seq <| sR <| rV 1 <| ZT 15 ((j : Int) < 18) <| nT <| cT <| wp_skip <| au_then <| wp_seq <| wp_block <| sR <| rV 1 <| ZX 19 .i64 g3 (j) 18 <| pE M 20 g3 j (.int .u64 ((dg x) j)) (fun w M => M.cell 2 rfl (by omega) (st_cell 255 8 (dg x) j)) <| rV 3 <| nT ?_
  refine sR <| rV 3 <| ZX 26 .i64 g3 (j) 18 <| ZP64 M 2 j (un (ua ((dg x) j) (cy 8 (dg x) j)) 255) fun u8 M => nT <| rg_lit <| rV 3 <| pl_nil <| au_block <| au_then <| rg_lit <| rV 1 <| ZI 17 ((j : Int) + 1) ((j + 1 : Nat) : Int) <| rV 1 <| nT ?_
  exact exS M
 ·intro a u0 hI
  obtain ⟨v1, rfl, M⟩ := hI
  refine wp_seq <| sR <| rV 1 <| ZF 15 (18 < 18) <| nT <| cF <| wp_exit <| au_then_exit <| au_then_exit <| au_block_exit <| au_then <| wp_seq <| sR <| rV 1 <| ZE M 30 2 16 <| wT 31 h ?_
  refine nT <| cT <| sR <| rV 1 <| ZE M 33 2 16 <| rV 2 <| ZP64 M 2 16 (un ((dG x) 16) 3) fun u9 M => ?_
  refine nT <| sR <| pA M 36 2 18 (w64 (upd (dG x) 16 (un ((dG x) 16) 3))) <| ZG M 1 18 (w64 (upd (dG x) 16 (un ((dG x) 16) 3))) fun u10 M => nT <| wp_ret <| au_then_ret ?_
  exact bc Tryz.results81 M 1 18 (w64 (upd (dG x) 16 (un ((dG x) 16) 3))) ⟨rfl, below_grown M.old⟩
theorem d_wholeB (x : NI) (h : ¬ 4 ≤ dG x 16) (w : World) (hL : Laid w)  : Cs 81 #[.agg (av 18 (w64 x))] w (.agg (av 18 (w64 (dcF x)))) := by
 go_enter Tryz.func81, Tryz.ntmps81
 have M := Mem.start hL
 refine sR <| pN M 1 (.cells (av 18 (w64 x)) 128) fun g1 u1 M => pN M 2 (.cells (av 18 (w64 (fun _ => 0))) 128) fun g2 u2 M => nT <| sR <| pA M 7 0 18 (w64 x) <| ZC M 8 (fun w M => d_carry x w M.laid) fun u3 M => ZG M 0 18 (w64 (dcF x)) fun u4 M => nT <| sR <| pA M 9 0 18 (w64 (dcF x)) <| pN M 3 (.cells (av 18 (w64 (fun _ => 0))) 128) fun g3 u5 M => ZG M 2 18 (w64 (dcF x)) fun u6 M => nT <| sR <| rV 1 ?_
 refine ZE M 11 2 0 <| rV 2 <| ZP64 M 2 0 (ua ((dcF x) 0) 5) fun u7 M => nT <| sq <| wp_seq <| sq <| wp_block ?_
 refine au_loop (fun j a w' => ∃ v1 : NV, a = (fm ([.agg (av 18 (w64 x)), .pointer (some ⟨g1, 0, none⟩), .pointer (some ⟨g2, 0, none⟩), .pointer (some ⟨g3, 0, none⟩), .int .u64 (cy 8 (dg x) j), .int .i64 (j : Int)] ++ vr v1 6 32)) ∧ Mem ⟨w, []⟩ [⟨g1, .cells (av 18 (w64 (dcF x))) 128⟩, ⟨g2, .cells (av 18 (w64 (fun _ => 0))) 128⟩, ⟨g3, .cells (av 18 (w64 (st 255 8 (dg x) j))) 128⟩] w') 18 (exS M) ?_ ?_
 ·intro j a u0 hj hI
  obtain ⟨v1, rfl, M⟩ := hI
  refine wp_seq <| sR <| rV 1 <| ZT 15 ((j : Int) < 18) <| nT <| cT <| wp_skip <| au_then <| wp_seq <| wp_block <| sR <| rV 1 <| ZX 19 .i64 g3 (j) 18 <| pE M 20 g3 j (.int .u64 ((dg x) j)) (fun w M => M.cell 2 rfl (by omega) (st_cell 255 8 (dg x) j)) <| rV 3 <| nT ?_
  refine sR <| rV 3 <| ZX 26 .i64 g3 (j) 18 <| ZP64 M 2 j (un (ua ((dg x) j) (cy 8 (dg x) j)) 255) fun u8 M => nT <| rg_lit <| rV 3 <| pl_nil <| au_block <| au_then <| rg_lit <| rV 1 <| ZI 17 ((j : Int) + 1) ((j + 1 : Nat) : Int) <| rV 1 <| nT ?_
  exact exS M
 ·intro a u0 hI
  obtain ⟨v1, rfl, M⟩ := hI
  refine wp_seq <| sR <| rV 1 <| ZF 15 (18 < 18) <| nT <| cF <| wp_exit <| au_then_exit <| au_then_exit <| au_block_exit <| au_then <| wp_seq <| sR <| rV 1 <| ZE M 30 2 16 <| wF 31 h ?_
  refine nT <| cF <| wp_skip <| au_then <| sR <| pA M 37 0 18 (w64 (dcF x)) <| ZG M 1 18 (w64 (dcF x)) fun u9 M => nT <| wp_ret ?_
  exact bc Tryz.results81 M 1 18 (w64 (dcF x)) ⟨rfl, below_grown M.old⟩
theorem d_whole (x : NI) (w : World) (hL : Laid w) : Cs 81 #[.agg (av 18 (w64 x))] w (.agg (av 18 (w64 (dwF x)))) := by
 unfold dwF
 by_cases h : 4 ≤ dG x 16
 ·rw [if_pos h]
  exact d_wholeA x h w hL
 ·rw [if_neg h]
  exact d_wholeB x h w hL
open Go.RowKit
def rk (key : Yb) : Nat → (Nat → Int)
 | 0 => fun _ => 0
 | j + 1 => upd (rk key j) j (cv .u64 (bt key j))
def dm1 (p : NI) : Nat → Int := upd (upd (upd (upd p 3 (un (p 3) 15)) 7 (un (p 7) 15)) 11 (un (p 11) 15)) 15 (un (p 15) 15)
def dm2 (p : NI) : Nat → Int := upd (upd (upd p 4 (un (p 4) 252)) 8 (un (p 8) 252)) 12 (un (p 12) 252)
def drF (key : Yb) : Nat → Int := dm2 (dm1 (rk key 16))
def dpa (h : NI) (p : Yb) : Nat → (Nat → Int)
 | 0 => h
 | j + 1 => upd (dpa h p j) j (ua (dpa h p j j) (cv .u64 (bt p j)))
def dpp (h : NI) (p : Yb) : Nat → Int := upd (dpa h p p.size) p.size (ua (dpa h p p.size p.size) 1)
def dpc (s : Yb) (j : Nat) : ByteArray := s.extract (16 * j) (min (16 * j + 16) s.size)
def dnx (s : Yb) (r h : NI) (j : Nat) : Nat → Int := dtF (dcF (dpp h (dpc s j))) r
def dsm (s : Yb) (r : NI) : Nat → (Nat → Int)
 | 0 => fun _ => 0
 | j + 1 => dnx s r (dsm s r j) j
def dh (key s : Yb) : Nat → Int := dwF (dsm s (drF key) ((s.size + 15) / 16))
def dsg (key : Yb) (h : NI) : Nat → Int := fun i => ua (h i) (cv .u64 (bt key (16 + i)))
def dby (g : NI) (i : Nat) : Int := cv .u8 (ua (g i) (cy 8 g i))
def dbs (g : NI) : Nat → (Nat → Int)
 | 0 => fun _ => 0
 | j + 1 => upd (dbs g j) j (dby g j)
theorem dbs_at (g : NI) : ∀ n, ∀ i, i < n → dbs g n i = dby g i
 | 0, i, h => absurd h (by omega)
 | n + 1, i, h => by
  unfold dbs upd
  by_cases e : i = n
  ·rw [if_pos e, e]
  ·rw [if_neg e, dbs_at g n i (by omega)]
theorem dbs_map (g : NI) : (List.range 16).map (dbs g 16) = (List.range 16).map (dby g) := List.map_congr_left fun i hi => dbs_at g 16 i (List.mem_range.1 hi)
theorem dby_nn (g : NI) : ∀ y ∈ (List.range 16).map (dby g), 0 ≤ y ∧ y < 256 := fun y hy => by
 obtain ⟨i, _, rfl⟩ := List.mem_map.1 hy
 exact cv8_nn _
def dtS (key s : Yb) : ByteArray := bs ((List.range 16).map (dby (dsg key (dh key s))))
theorem dpc_size (s : Yb) (j : Nat) : (dpc s j).size = min (16 * j + 16) s.size - 16 * j := by
 unfold dpc
 rw [ByteArray.size_extract]
 omega
theorem d_TagA (key s : Yb) (hk : key.size = 32) (hz : s.size ≤ 200000) (w : World) (hL : Laid w)  : Cs 51 #[.string key, .string s] w (.tuple #[.string (dtS key s), .int .i64 0]) := by
 go_enter Tryz.func51, Tryz.ntmps51
 have M := Mem.start hL
 refine sq <| wp_seq <| sR <| rV 2 <| ZD 20 ((key.size : Int) = 32) <| nT <| cF <| wp_skip <| au_then <| sR <| pN M 6 (.cells (av 18 (w64 (fun _ => 0))) 128) fun g1 u1 M => nT <| wp_seq <| sq <| wp_block ?_
 refine au_loop (fun j a w' => ∃ v1 : NV, a = (fm ([.string key, .string s] ++ vr v1 2 2 ++ [.string ⟨#[]⟩, .int .i64 0, .pointer (some ⟨g1, 0, none⟩), .int .i64 (j : Int)] ++ vr v1 8 110)) ∧ Mem ⟨w, []⟩ [⟨g1, .cells (av 18 (w64 (rk key j))) 128⟩] w') 16 (exS M) ?_ ?_
 ·intro j a u0 hj hI
  obtain ⟨v1, rfl, M⟩ := hI
  refine wp_seq <| sR <| rV 1 <| ZT 22 ((j : Int) < 16) <| nT <| cT <| wp_skip <| au_then <| wp_seq <| wp_block <| rg_lit <| rV 3 <| pH 28 (.int .u8 (bt key j)) (run_ixS 9 Tryz.underlying9 _ _ rfl key (by kernel_rfl) .i64 j (by kernel_rfl) (by omega)) <| rV 1 <| ZX 30 .i64 g1 (j) 18 <| ZP64 M 0 j (cv .u64 (bt key j)) fun u2 M => ?_
  refine pl_nil <| au_block <| au_then <| rg_lit <| rV 1 <| ZI 24 ((j : Int) + 1) ((j + 1 : Nat) : Int) <| rV 1 <| nT ?_
  exact exS M
 ·intro a u0 hI
  obtain ⟨v1, rfl, M⟩ := hI
  refine wp_seq <| sR <| rV 1 <| ZF 22 (16 < 16) <| nT <| cF <| wp_exit <| au_then_exit <| au_then_exit <| au_block_exit <| au_then <| wp_seq <| sq <| wp_block <| wp_loop_rounds 5 ?_
  refine rounds_go <| wp_seq <| sq <| cT <| wp_skip <| au_then <| wp_seq <| wp_block <| rg_lit <| rV 3 <| ZE M 38 0 3 <| rV 2 <| ZP64 M 0 3 (un ((rk key 16) 3) 15) fun u3 M => pl_nil <| au_block <| au_then ?_
  refine rg_lit <| rV 3 <| nT <| rounds_go <| wp_seq <| sq <| cT <| wp_skip <| au_then <| wp_seq <| wp_block <| rg_lit <| rV 3 <| ZE M 38 0 7 <| rV 2 <| ZP64 M 0 7 (un ((rk key 16) 7) 15) fun u4 M => ?_
  refine pl_nil <| au_block <| au_then <| rg_lit <| rV 3 <| nT <| rounds_go <| wp_seq <| sq <| cT <| wp_skip <| au_then <| wp_seq <| wp_block <| rg_lit <| rV 3 ?_
  refine ZE M 38 0 11 <| rV 2 <| ZP64 M 0 11 (un ((rk key 16) 11) 15) fun u5 M => pl_nil <| au_block <| au_then <| rg_lit <| rV 3 <| nT <| rounds_go <| wp_seq <| sq <| cT <| wp_skip <| au_then <| wp_seq ?_
  refine wp_block <| rg_lit <| rV 3 <| ZE M 38 0 15 <| rV 2 <| ZP64 M 0 15 (un ((rk key 16) 15) 15) fun u6 M => pl_nil <| au_block <| au_then <| rg_lit <| rV 3 <| nT <| rounds_go <| wp_seq <| sq <| cF ?_
  refine wp_exit <| au_then_exit <| au_then_exit <| au_block_exit <| au_then <| wp_seq <| sR <| rV 1 <| nT <| wp_block <| wp_loop_rounds 4 ?_
  refine rounds_go <| wp_seq <| sq <| cT <| wp_skip <| au_then <| wp_seq <| wp_block <| rg_lit <| rV 3 <| ZE M 48 0 4 <| rV 2 <| ZP64 M 0 4 (un ((dm1 (rk key 16)) 4) 252) fun u7 M => pl_nil <| au_block <| au_then ?_
  refine rg_lit <| rV 3 <| nT <| rounds_go <| wp_seq <| sq <| cT <| wp_skip <| au_then <| wp_seq <| wp_block <| rg_lit <| rV 3 <| ZE M 48 0 8 <| rV 2 <| ZP64 M 0 8 (un ((dm1 (rk key 16)) 8) 252) fun u8 M => ?_
  refine pl_nil <| au_block <| au_then <| rg_lit <| rV 3 <| nT <| rounds_go <| wp_seq <| sq <| cT <| wp_skip <| au_then <| wp_seq <| wp_block <| rg_lit <| rV 3 ?_
  refine ZE M 48 0 12 <| rV 2 <| ZP64 M 0 12 (un ((dm1 (rk key 16)) 12) 252) fun u9 M => pl_nil <| au_block <| au_then <| rg_lit <| rV 3 <| nT <| rounds_go <| wp_seq <| sq <| cF <| wp_exit <| au_then_exit <| au_then_exit ?_
  refine au_block_exit <| au_then <| sR <| pN M 10 (.cells (av 18 (w64 (fun _ => 0))) 128) fun g2 u10 M => nT <| wp_seq <| sq <| wp_block ?_
  refine au_loop (fun i a w' => ∃ v2 : NV, a = (fm ([.string key, .string s] ++ vr v2 2 2 ++ [.string ⟨#[]⟩, .int .i64 0, .pointer (some ⟨g1, 0, none⟩), .int .i64 (16 : Int), .int .i64 19, .int .i64 16, .pointer (some ⟨g2, 0, none⟩), .int .i64 ((16 * i : Nat) : Int)] ++ vr v2 12 106)) ∧ Mem ⟨w, []⟩ [⟨g1, .cells (av 18 (w64 (drF key))) 128⟩, ⟨g2, .cells (av 18 (w64 (dsm s (drF key) i))) 128⟩] w') ((s.size + 15) / 16) (exS M) ?_ ?_
  ·intro i a u0 hi hI
   obtain ⟨v2, rfl, M⟩ := hI
   refine wp_seq <| sR <| rV 3 <| ZT 54 (((16 * i : Nat) : Int) < ((s.size : Nat) : Int)) <| nT <| cT <| wp_skip <| au_then <| wp_seq <| wp_block <| sR <| rV 3 <| ZI 60 (((16 * i : Nat) : Int) + 16) ((16 * i + 16 : Nat) : Int) <| rV 2 <| zJ 63 (.int .i64 ((min (16 * i + 16) s.size : Nat) : Int)) (.int .i64 (if ((s.size : Nat) : Int) < ((16 * i + 16 : Nat) : Int) then ((s.size : Nat) : Int) else ((16 * i + 16 : Nat) : Int))) (by rw [min_if (16 * i + 16) s.size]) <| pH 64 (.string (dpc s i)) (run_strlh 9 Tryz.underlying9 _ _ _ rfl s (by kernel_rfl) .i64 .i64 (16 * i) (min (16 * i + 16) s.size) (by kernel_rfl) (by kernel_rfl) (by omega) (by omega)) ?_
   refine rV 1 <| nT <| wp_seq <| sq <| wp_block ?_
   have hps := dpc_size s i
   obtain ⟨n, hn⟩ : ∃ n, n = (dpc s i).size := ⟨_, rfl⟩
   refine au_loop (fun j a w' => ∃ v3 : NV, a = (fm ([.string key, .string s] ++ vr v3 2 2 ++ [.string ⟨#[]⟩, .int .i64 0, .pointer (some ⟨g1, 0, none⟩), .int .i64 (16 : Int), .int .i64 19, .int .i64 16, .pointer (some ⟨g2, 0, none⟩), .int .i64 ((16 * i : Nat) : Int), .string (dpc s i), .int .i64 (j : Int)] ++ vr v3 14 104)) ∧ Mem ⟨w, []⟩ [⟨g1, .cells (av 18 (w64 (drF key))) 128⟩, ⟨g2, .cells (av 18 (w64 (dpa (dsm s (drF key) i) (dpc s i) j))) 128⟩] w') (dpc s i).size (exS M) ?_ ?_
   ·intro j a u0 hj hI
    obtain ⟨v3, rfl, M⟩ := hI
    refine wp_seq <| sR <| rV 3 <| ZT 68 ((j : Int) < ((dpc s i).size : Int)) <| nT <| cT <| wp_skip <| au_then <| wp_seq <| wp_block <| rg_tail M 10 (by kernel_rfl) (by kernel_rfl) ?_
    simp only [List.take_succ_cons, List.take_zero]
    refine kR 2 <| eX 73 .i64 g2 (j) 18 <| eE M 74 1 j <| kR 2 <| kH 77 (.int .u8 (bt (dpc s i) j)) (run_ixS 9 Tryz.underlying9 _ _ rfl (dpc s i) (by kernel_rfl) .i64 j (by kernel_rfl) (hj)) <| kR 2 <| eX 80 .i64 g2 (j) 18 <| kl_nil fun u11 M => ZP64 M 1 j (ua ((dpa (dsm s (drF key) i) (dpc s i) j) j) (cv .u64 (bt (dpc s i) j))) fun u12 M => pl_nil <| au_block <| au_then <| rg_lit <| rV 1 <| ZI 70 ((j : Int) + 1) ((j + 1 : Nat) : Int) <| rV 1 ?_
    refine nT ?_
    exact exS M
   ·intro a u0 hI
    obtain ⟨v3, rfl, M⟩ := hI
    refine wp_seq <| sR <| rV 3 <| ZF 68 (((dpc s i).size : Int) < ((dpc s i).size : Int)) <| nT <| cF <| wp_exit <| au_then_exit <| au_then_exit <| au_block_exit <| au_then <| sR <| rV 2 <| pH 83 (.pointer (some ⟨g2, (dpc s i).size, none⟩)) (run_ix1 128 18 33 Tryz.underlying128 inz33 _ _ rfl g2 (by kernel_rfl) .i64 (dpc s i).size (by kernel_rfl) (by omega)) <| pl_cell M (want_no rfl) (some 84) rfl 33 _ rfl g2 (dpc s i).size (by kernel_rfl) (.int .u64 ((dpa (dsm s (drF key) i) (dpc s i) (dpc s i).size) (dpc s i).size)) (fun _ => by kernel_rfl) (fun w M => M.cell 1 rfl (by omega) rfl) <| rV 1 ?_
    refine pH 86 (.pointer (some ⟨g2, (dpc s i).size, none⟩)) (run_ix1 128 18 33 Tryz.underlying128 inz33 _ _ rfl g2 (by kernel_rfl) .i64 (dpc s i).size (by kernel_rfl) (by omega)) <| pl_put1 M (want_no rfl) rfl 33 _ _ rfl 1 g2 (dpc s i).size (by kernel_rfl) 18 128 (w64 (dpa (dsm s (drF key) i) (dpc s i) (dpc s i).size)) rfl (.int .u64 (ua ((dpa (dsm s (drF key) i) (dpc s i) (dpc s i).size) (dpc s i).size) 1)) (w64 (upd (dpa (dsm s (drF key) i) (dpc s i) (dpc s i).size) (dpc s i).size (ua ((dpa (dsm s (drF key) i) (dpc s i) (dpc s i).size) (dpc s i).size) 1))) (by kernel_rfl) inz33 (by omega) rfl rfl (fun j _ => put_w64 _ _ _ j) fun u13 M => nT <| rg_tail M 4 (by kernel_rfl) (by kernel_rfl) ?_
    simp only [List.take_succ_cons, List.take_zero]
    refine kA M 87 1 18 (w64 (dpp (dsm s (drF key) i) (dpc s i))) <| kC M 88 80 #[.agg (av 18 (w64 (dpp (dsm s (drF key) i) (dpc s i))))] (.agg (av 18 (w64 (dcF (dpp (dsm s (drF key) i) (dpc s i)))))) (fun w M => d_carry _ w M.laid) <| kA M 89 0 18 (w64 (drF key)) <| kC M 90 79 #[.agg (av 18 (w64 (dcF (dpp (dsm s (drF key) i) (dpc s i))))), .agg (av 18 (w64 (drF key)))] (.agg (av 18 (w64 (dnx s (drF key) (dsm s (drF key) i) i)))) (fun w M => d_times _ _ w M.laid) <| kl_nil fun u14 M => ZG M 1 18 (w64 (dnx s (drF key) (dsm s (drF key) i) i)) fun u15 M => pl_nil <| au_block <| au_then <| rg_lit <| rV 1 <| ZI 56 (((16 * i : Nat) : Int) + 16) ((16 * (i + 1) : Nat) : Int) <| rV 1 <| nT ?_
    exact exS M
  ·intro a u0 hI
   obtain ⟨v2, rfl, M⟩ := hI
   refine wp_seq <| sR <| rV 3 <| ZF 54 (((16 * ((s.size + 15) / 16) : Nat) : Int) < ((s.size : Nat) : Int)) <| nT <| cF <| wp_exit <| au_then_exit <| au_then_exit <| au_block_exit <| au_then <| sR <| pA M 91 1 18 (w64 (dsm s (drF key) ((s.size + 15) / 16))) <| pC M 92 81 #[.agg (av 18 (w64 (dsm s (drF key) ((s.size + 15) / 16))))] (.agg (av 18 (w64 (dh key s)))) (fun w M => d_whole _ w M.laid) fun u16 M => ZG M 1 18 (w64 (dh key s)) fun u17 M => nT ?_
   refine sq <| sR <| ZM M 93 (fun g3 => .slice (some ⟨g3, 0, none⟩) 16 16) (.cells (av 16 (w8 (dbs (dsg key (dh key s)) 0))) 5) fun g3 u18 M => rV 1 <| nT <| wp_seq <| sq <| wp_block ?_
   refine au_loop (fun j a w' => ∃ v4 : NV, a = (fm ([.string key, .string s] ++ vr v4 2 2 ++ [.string ⟨#[]⟩, .int .i64 0, .pointer (some ⟨g1, 0, none⟩), .int .i64 (16 : Int), .int .i64 19, .int .i64 16, .pointer (some ⟨g2, 0, none⟩), .int .i64 ((16 * ((s.size + 15) / 16) : Nat) : Int)] ++ vr v4 12 2 ++ [.int .u64 (cy 8 (dsg key (dh key s)) j), .slice (some ⟨g3, 0, none⟩) 16 16, .int .i64 (j : Int)] ++ vr v4 17 101)) ∧ Mem ⟨w, []⟩ [⟨g1, .cells (av 18 (w64 (drF key))) 128⟩, ⟨g2, .cells (av 18 (w64 (dh key s))) 128⟩, ⟨g3, .cells (av 16 (w8 (dbs (dsg key (dh key s)) j))) 5⟩] w') 16 (exS M) ?_ ?_
   ·intro j a u0 hj hI
    obtain ⟨v4, rfl, M⟩ := hI
    refine wp_seq <| sR <| rV 1 <| ZT 95 ((j : Int) < 16) <| nT <| cT <| wp_skip <| au_then <| wp_seq <| wp_block <| wp_seq <| rg_tail M 11 (by kernel_rfl) (by kernel_rfl) ?_
    simp only [List.take_succ_cons, List.take_zero]
    refine kR 1 <| eX 99 .i64 g2 (j) 18 <| eE M 100 1 j <| kR 2 <| eI 103 (16 + (j : Int)) ((16 + j : Nat) : Int) <| kH 104 (.int .u8 (bt key (16 + j))) (run_ixS 9 Tryz.underlying9 _ _ rfl key (by kernel_rfl) .i64 (16 + j) (by kernel_rfl) (by omega)) <| kR 4 <| kl_nil fun u19 M => rV 1 <| nT <| sR <| rV 4 <| pH 113 (.pointer (some ⟨g3, j, none⟩)) (run_ix0 44 5 Tryz.underlying44 inz5 _ _ rfl g3 16 16 (by kernel_rfl) .i64 j (by kernel_rfl) hj) <| ZP8 M 2 j (cv .u8 (ua (ua ((dh key s) j) (cv .u64 (bt key (16 + j)))) (cy 8 (dsg key (dh key s)) j))) fun u20 M => nT <| rg_lit ?_
    refine rV 3 <| pl_nil <| au_block <| au_then <| rg_lit <| rV 1 <| ZI 97 ((j : Int) + 1) ((j + 1 : Nat) : Int) <| rV 1 <| nT ?_
    exact exS M
   ·intro a u0 hI
    obtain ⟨v4, rfl, M⟩ := hI
    refine wp_seq <| sR <| rV 1 <| ZF 95 (16 < 16) <| nT <| cF <| wp_exit <| au_then_exit <| au_then_exit <| au_block_exit <| au_then <| sR <| rV 1 <| pl_back M (want_no rfl) (some 117) rfl _ rfl 2 g3 16 16 (by kernel_rfl) _ rfl ((List.range 16).map (dbs (dsg key (dh key s)) 16)) 16 (sb_av 16 _ _) (by simp) (by rw [dbs_map]; exact dby_nn _) ?_
    rw [dbs_map]
    refine rV 2 <| nT <| wp_ret ?_
    exact b1 M
open Go.RowKit
def FW (ro : Option Nat) : Fence := { Fence.wide with round := ro }
theorem fw_calls {ro : Option Nat} {n : Nat} {P : Program} {f : FuncId} {args : Array Value} {w : World} {R : Ending → World → Prop} (h : Calls P f args w R) : CallsIn (FW ro) n P f args w R := (callsIn_wide (n := n)).2 h
theorem fw_rows {ro : Option Nat} {n : Nat} {P : Program} {row : String} {args : Array Value} {w : World} {R : Value → World → Prop} (h : Rows P row args w R) : RowsIn (FW ro) n P row args w R :=
 fun c cs _ => let ⟨v, w', r, s⟩ := h c cs; ⟨v, w', r, stepsIn_wide.2 s⟩
section
variable {P : Program} {ops : Array Oper} {rest : List Oper} {o : Oper} {a : Act} {w : World} {Q : Exit → Act → World → Prop} {K : Act → World → Prop} {n : Nat} {ro : Option Nat}
theorem op_in (hd : ∀ c, o.op ≠ .defer c) (h : o.wp P a w K Q) : o.wpIn (FW ro) n P a w K Q := by
 refine ⟨fun _ _ => trivial, ?_⟩
 rw [Oper.semAt_eq _ _ _ hd]
 unfold Oper.wp at h
 generalize (execOp a.eval o).run P w = r at h
 cases r with
 | ok x w' =>
  cases x <;> simp only [Oper.upon] at h <;> simp only [Oper.uponIn]
  all_goals first
   | exact h
   | exact h.elim
   | exact ⟨fun e => by simp [FW, Fence.wide] at e, fw_calls h⟩
   | exact ⟨fun e => by simp [FW, Fence.wide] at e, fw_rows h⟩
 | halt x w' => cases x <;> simp only [Oper.upon] at h <;> simp only [Oper.uponIn] <;> exact h
def ndB (o : Oper) : Bool := match o.op with
 | .defer _ => false
 | _ => true
theorem nd_of (h : ndB o = true) : ∀ c, o.op ≠ .defer c := fun c e => by simp [ndB, e] at h
theorem list_in : ∀ (l : List Oper) (a : Act) (w : World), l.all ndB = true → (∀ a w, ¬ Q .outgrown a w) → wpList P ops Q l a w → wpListIn (FW ro) n P ops Q l a w
 | [], _, _, _, _, h => h
 | o :: l, a, w, hd, hQ, h => by
  simp only [List.all_cons, Bool.and_eq_true] at hd
  unfold wpList at h
  unfold wpListIn
  split
  ·rename_i hw
   rw [if_pos hw] at h
   rcases h with h | ⟨_, a', w', h⟩
   ·exact Oper.wpIn_mono (fun a w h => list_in l a w hd.2 hQ h) (op_in (nd_of hd.1) h)
   ·exact absurd h (hQ a' w')
  ·rename_i hw
   rw [if_neg hw] at h
   exact ⟨fun _ _ => trivial, list_in l _ _ hd.2 hQ h⟩
theorem list_in_then : ∀ (l : List Oper) (a : Act) (w : World), l.all ndB = true → (∀ a w, ¬ Q .outgrown a w) → wpList P ops (Exit.then (wpListIn (FW ro) n P ops Q rest) Q) l a w → wpListIn (FW ro) n P ops Q (l ++ rest) a w
 | [], _, _, _, _, h => h
 | o :: l, a, w, hd, hQ, h => by
  simp only [List.all_cons, Bool.and_eq_true] at hd
  unfold wpList at h
  rw [List.cons_append]
  unfold wpListIn
  split
  ·rename_i hw
   rw [if_pos hw] at h
   rcases h with h | ⟨_, a', w', h⟩
   ·exact Oper.wpIn_mono (fun a w h => list_in_then l a w hd.2 hQ h) (op_in (nd_of hd.1) (wp_unthen h))
   ·exact absurd h (hQ a' w')
  ·rename_i hw
   rw [if_neg hw] at h
   exact ⟨fun _ _ => trivial, list_in_then l _ _ hd.2 hQ h⟩
theorem any_in (hd : ∀ (i : Nat) (o : Oper), ops[i]? = some o → ndB o = true) (hQ : ∀ a w, ¬ Q .outgrown a w) {md : Region.Mode} : ∀ (fuel : Nat) (listed : Array Bool) (a : Act) (w : World), wpAny P md ops Q fuel listed a w → wpAnyIn (FW ro) n P md ops Q fuel listed a w
 | 0, _, _, _, h => h
 | fuel + 1, listed, a, w, h => ⟨h.1, fun i hi => by
  have h1 := h.2 i hi
  unfold wpOp at h1
  unfold wpOpIn
  cases ho : ops[i]? with
  | none =>
   simp only [ho] at h1 ⊢
   exact any_in hd hQ fuel _ _ _ h1
  | some o =>
   simp only [ho] at h1 ⊢
   split
   ·rename_i hw
    rw [if_pos hw] at h1
    rcases h1 with h1 | ⟨_, a', w', h1⟩
    ·exact Oper.wpIn_mono (fun a w h => any_in hd hQ fuel _ a w h) (op_in (nd_of (hd i o ho)) h1)
    ·exact absurd h1 (hQ a' w')
   ·rename_i hw
    rw [if_neg hw] at h1
    exact ⟨fun _ _ => trivial, any_in hd hQ fuel _ _ _ h1⟩⟩
theorem rr_lit {id : Nat} {l : List Oper} (hd : l.all ndB = true) (hQ : ∀ a w, ¬ Q .outgrown a w) (h : PL P l.toArray Q l a w) : (Code.region id l.toArray false).wpIn (FW ro) n P Q a w := wpIn_region_lit (list_in l a w hd hQ h.out)
theorem rr_held {c : Ctx} {L : List Blk} {id : Nat} {l : List Oper} (hd : l.all ndB = true) (hO : ∀ a w, ¬ Q .outgrown a w) (M : Mem c L w) (Ls : List Blk) (m : Nat) (hn : l.length = m + 1) (hm : P.follows .mixedOrders = true) (hB : (Region.sinkB .any l.toArray m && Region.chainB .any l.toArray m && Region.noSelect l.toArray) = true) (hQ : ∀ c a d v w, Q (.panic c) (Act.put a d v) w → Q (.panic c) a w)
  (h : ∀ w', Mem c L w' → HL P l.toArray Q (Mem c Ls) m (m + 1) (Array.replicate (m + 1) false) a w') : (Code.region id l.toArray true).wpIn (FW ro) n P Q a w := by
 simp only [Bool.and_eq_true] at hB
 have hsz : l.toArray.size = m + 1 := by simpa using hn
 have inv : HeadInv .any l.toArray m (Array.replicate (m + 1) false) :=
  ⟨by simpa using hn.symm, fun j oj _ hl => (by rw [getD_replicate_false] at hl; cases hl), fun t _ ht => getD_in (by simp; omega) (getD_replicate_false _ _)⟩
 have h2 := (h w.drew M.drew).out hQ ⟨hB.1.1, hB.1.2, by omega, hB.2⟩ inv
 refine wpIn_region_any hm (any_in (fun i o ho => ?_) hO _ _ _ _ (wpAny_of_L (S := Mem c Ls) (n := m) _ _ _ _ ?_))
 ·have h3 : l[i]? = some o := by simpa using ho
  exact List.all_eq_true.1 hd o (List.mem_of_getElem? h3)
 ·rw [hsz]
  exact h2
def rdPost (lp : Nat) (d : Option Tmp) (a : Act) (K : Act → World → Prop) : Exit → Act → World → Prop
 | .normal, _, u => ∃ r, u.heap[lp]? = some (.loop r) ∧ K (a.put d (.bool true)) (u.putObj lp (.loop { r with state := .ready, pending := none }))
 | _, _, _ => False
theorem pl_yield (lp : Nat) (r : Loop) (args : Array Value) (hl : w.heap[lp]? = some (.loop r)) (hs : args.size = r.params.size) (hst : r.state = .ready) (hd : ndB o = true) (hrun : ∀ w, (execOp a.eval o).run P w = (Instr.yield lp args).run P w) (hw : Region.wanted o (yielded ops a.tmps) = true)
  (h : r.assign.wpIn (FW (some lp)) 0 P (Exit.then (fun a1 w1 => w1.heap[lp]? = some (.loop r) ∧ r.body.wpIn (FW (some lp)) 0 P (rdPost lp o.dst a (wpListIn (FW none) 0 P ops Q rest)) a1 (w1.putObj lp (.loop { r with state := .busy }))) (fun _ _ _ => False)) { tmps := (r.params.zip args).foldl (fun t (p, v) => t.setIfInBounds p v) r.tmps, defers := [] } w) :
  wpListIn (FW none) 0 P ops Q (o :: rest) a w := by
 unfold wpListIn
 rw [if_pos hw]
 refine ⟨fun _ _ => trivial, ?_⟩
 rw [Oper.semAt_eq _ _ _ (nd_of hd), hrun, run_yield hl hs, Oper.uponIn_round]
 refine ⟨fun e => by simp [FW, Fence.wide] at e, ?_⟩
 refine roundIn_of_wpIn (F := FW none) trivial <| wpIn_mono h ?_
 rintro e a1 w1 hq
 cases e with
 | normal =>
  obtain ⟨h1, h2⟩ := hq
  refine ⟨_, run_beginRound h1 hst, ?_⟩
  refine wpIn_mono h2 ?_
  rintro e a2 w2 hq
  cases e with
  | normal =>
   obtain ⟨r2, h3, h4⟩ := hq
   exact ⟨_, _, run_endRound none h3, h4⟩
  | ret => exact hq.elim
  | exit i => exact hq.elim
  | goto i => exact hq.elim
  | panic c => exact hq.elim
  | outgrown => exact hq.elim
 | ret => exact hq.elim
 | exit i => exact hq.elim
 | goto i => exact hq.elim
 | panic c => exact hq.elim
 | outgrown => exact hq.elim
theorem in_list {l : List Oper} (hd : l.all ndB = true) (hQ : ∀ a w, ¬ Q .outgrown a w) (h : PL P ops Q l a w) : wpListIn (FW none) 0 P ops Q l a w := list_in l a w hd hQ h.out
theorem wp_range {g : Operand} {ps : Array Tmp} {assign body : Code} {gf : FuncId} {lb : Array Value} (hg : a.eval g = .func (.func gf) #[] lb) (eg : ∀ args w, (callFunc gf args).run P w = .ok (.enter gf args) w)
  (h : ∀ fn, Calls P gf (#[.func (.yield (w.heap.size + 1)) #[] #[]] ++ lb) ((w.alloc (.deferred (some []))).alloc (.loop { state := .ready, pending := none, fn, tmps := a.tmps, params := ps, assign, body, defers := w.heap.size }))
   fun e w3 => (∃ v, e = .returned v) ∧ ∃ r, w3.heap[w.heap.size + 1]? = some (.loop r) ∧ r.state ≠ .busy ∧
    (match r.pending with
     | none => Q .normal { a with defers := { target := .collected w.heap.size, args := #[] } :: a.defers } (w3.putObj (w.heap.size + 1) (.loop { r with state := .exhausted }))
     | some c => c.wp P Q { a with defers := { target := .collected w.heap.size, args := #[] } :: a.defers } (w3.putObj (w.heap.size + 1) (.loop { r with state := .exhausted })))) :
  (Code.rangeFunc g ps assign body).wp P Q a w := by
 refine (wpIn_wide (n := 0)).1 <| wpIn_rangeFunc ?_
 intro fn _
 refine ⟨w.heap.size + 1, [{ target := .collected w.heap.size, args := #[] }], ((w.alloc (.deferred (some []))).alloc (.loop { state := .ready, pending := none, fn, tmps := a.tmps, params := ps, assign, body, defers := w.heap.size })), { target := .fn (.func gf) lb, args := #[.func (.yield (w.heap.size + 1)) #[] #[]] }, ((w.alloc (.deferred (some []))).alloc (.loop { state := .ready, pending := none, fn, tmps := a.tmps, params := ps, assign, body, defers := w.heap.size })), gf, #[.func (.yield (w.heap.size + 1)) #[] #[]] ++ lb, ((w.alloc (.deferred (some []))).alloc (.loop { state := .ready, pending := none, fn, tmps := a.tmps, params := ps, assign, body, defers := w.heap.size })), run_enterLoop_outer _ _ _ _ _, ?_, fun _ _ => trivial, ?_, fun e => by simp [Fence.wide] at e, ?_⟩
 ·simp only [resolve, hg]
  simp [go_sem]
 ·simp [invoke, go_sem, eg]
 ·refine (callsIn_wide (n := 0 - 1)).2 ((h fn).mono ?_)
  rintro e w3 ⟨⟨v, rfl⟩, r, h1, h2, h3⟩
  refine ⟨r.pending, _, run_endLoop h1 h2, ?_⟩
  cases hp : r.pending with
  | none =>
   rw [hp] at h3
   exact h3
  | some c =>
   rw [hp] at h3
   exact wpIn_wide.2 h3
theorem marks_ret {fn : Func} {R : Ending → World → Prop} {D : Nat} {v : Value} (hdf : a.defers = [{ target := .collected D, args := #[] }]) (hD : w.heap[D]? = some (.deferred (some []))) (hr : ∀ w, (results fn a.tmps).run P w = .ok v w) (h : R (.returned v) (w.putObj D (.deferred none))) : bodyPostM Fence.wide 0 P fn R .ret a w := by
 show LeavesInM Fence.wide 0 P fn a.tmps R a.defers .returning w
 rw [hdf]
 refine ⟨by simp, .inl ⟨D, _, rfl, run_takeDeferred hD, ?_⟩⟩
 exact ⟨v, hr _, h⟩
end
def findRange : Code → Option (Code × Code)
 | .seq a b => (findRange a).orElse fun _ => findRange b
 | .block _ c => findRange c
 | .rangeFunc _ _ s b => some (s, b)
 | _ => none
theorem code_is {O : Option (Code × Code)} {c0 d0 sg bd : Code} (hO : O = some (c0, d0)) (hc : O = some (sg, bd)) {F : Fence} {n : Nat} {P : Program} {Q : Exit → Act → World → Prop} {a : Act} {w : World} (h : d0.wpIn F n P Q a w) : bd.wpIn F n P Q a w := by
 rw [hO] at hc
 cases hc
 exact h
theorem code_is1 {O : Option (Code × Code)} {c0 d0 sg bd : Code} (hO : O = some (c0, d0)) (hc : O = some (sg, bd)) {F : Fence} {n : Nat} {P : Program} {Q : Exit → Act → World → Prop} {a : Act} {w : World} (h : c0.wpIn F n P Q a w) : sg.wpIn F n P Q a w := by
 rw [hO] at hc
 cases hc
 exact h
theorem fr_is {a b : Act} (h : a = b) {c : Code} {F : Fence} {n : Nat} {P : Program} {Q : Exit → Act → World → Prop} {w : World} (k : c.wpIn F n P Q b w) : c.wpIn F n P Q a w := by
 rw [h]
 exact k
theorem rg_yieldN {P : Program} {a : Act} {w : World} {Q : Exit → Act → World → Prop} {id : Nat} {l : List Oper} (m : Nat) (hd : (l.take m).all ndB = true) (hQ : ∀ a w, ¬ Q .outgrown a w) (h : PL P l.toArray (Exit.then (wpListIn (FW none) 0 P l.toArray Q (l.drop m)) Q) (l.take m) a w) : (Code.region id l.toArray false).wp P Q a w := by
 refine (wpIn_wide (n := 0)).1 <| wpIn_region_lit (F := FW none) ?_
 have h2 := list_in_then (ro := none) (n := 0) (l.take m) a w hd hQ h.out
 rw [List.take_append_drop] at h2
 exact h2
theorem fr_w {a b : Act} (h : a = b) {c : Code} {P : Program} {Q : Exit → Act → World → Prop} {w : World} (k : c.wp P Q b w) : c.wp P Q a w := by
 rw [h]
 exact k
section
variable {P : Program} {ops : Array Oper} {rest : List Oper} {o : Oper} {a : Act} {w : World} {c : Ctx} {L : List Blk} {Q : Exit → Act → World → Prop}
theorem pl_calltwo (M : Mem c L w) (hw : Region.wanted o (yielded ops a.tmps) = true) (d : Option Tmp) (hd : o.dst = d) (f : FuncId) (args : Array Value) (v : Nat → Nat → Value) (Z Y : Obj) (hrun : ∀ w, (execOp a.eval o).run P w = .ok (.enter f args) w)
  (hc : ∀ w, Mem c L w → Calls P f args w fun e w' => ∃ g k, e = .returned (v g k) ∧ Mem ⟨w, []⟩ [⟨g, Z⟩, ⟨k, Y⟩] w') (h : ∀ g k w', Mem c (L ++ [⟨g, Z⟩, ⟨k, Y⟩]) w' → PL P ops Q rest (a.put d (v g k)) w') : PL P ops Q (o :: rest) a w :=
 pl_callq hw d hd f args hrun ((hc w M).mono fun _ w' ⟨g, k, he, M'⟩ => ⟨v g k, he, h g k w' (M.news (below_grown M'.old) M'.at_ (fun b hb => (M'.ge b hb).elim id fun h => by cases h) M'.nodup)⟩)
theorem _root_.Go.Proofs.YtiahdbibeleakaaGreatDoor.Mem.putO (M : Mem c L w) (i g : Nat) (Z Z' : Obj) (hi : L[i]? = some ⟨g, Z⟩) : Mem c (L.set i ⟨g, Z'⟩) (w.putObj g Z') :=
 M.put i ⟨g, Z⟩ hi Z' ⟨rfl, rfl, rfl, by simp, fun j _ hj => World.putObj_heap_other (by simpa using hj)⟩ (World.putObj_heap_same (Array.getElem?_eq_some_iff.1 (M.get i hi)).1)
theorem _root_.Go.Proofs.YtiahdbibeleakaaGreatDoor.Mem.alloc2 (M : Mem c L w) (Z1 Z2 : Obj) : Mem c (L ++ [⟨w.heap.size, Z1⟩, ⟨w.heap.size + 1, Z2⟩]) ((w.alloc Z1).alloc Z2) := by
 have M1 := M.new w.heap.size Z1 (new_below w Z1) (heap_alloc_new w Z1) (Nat.le_refl _)
 have e : (w.alloc Z1).heap.size = w.heap.size + 1 := World.size_alloc _ _
 have M2 := M1.new (w.heap.size + 1) Z2 (new_below (w.alloc Z1) Z2) (by rw [← e]; exact heap_alloc_new (w.alloc Z1) Z2) (by rw [e]; exact Nat.le_refl _)
 rw [List.append_assoc] at M2
 exact M2
end
def pc (s : Yb) (off n : Nat) : Nat → Int := noF (mk (fun i => bt s (off + i)) n)
def nx (s : Yb) (r h : NI) (j : Nat) : Nat → Int := tmF (plF h (pc s (16 * j) (min 16 (s.size - 16 * j)))) r
def sm (s : Yb) (r : NI) : Nat → (Nat → Int)
 | 0 => fun _ => 0
 | j + 1 => nx s r (sm s r j) j
theorem piece_at (s : Yb) (off i : Nat) (h : off + i < s.size) : (vs8 (sb s))[off + i]? = some (w8 (fun i => bt s (off + i)) i) := by
 unfold vs8
 rw [List.getElem?_map, sb_get s _ h]
 rfl
theorem r_body (sg bd : Code) (hb : Tryz.f104.body.bind findRange = some (sg, bd)) (s : Yb) (r h : NI) (j : Nat) (hj : 16 * j < s.size) (gr gl gh gq cap lp : Nat) (Zl Zq : Obj) (hZ : SB Zq cap (vs8 (sb s))) (L0 : List Blk) (v : NV) (c : Ctx) (u : World) (R : Exit → Act → World → Prop) (hO : ∀ a w, ¬ R .outgrown a w) (hP : ∀ c a w, ¬ R (.panic c) a w)
  (M : Mem c (⟨gr, .cells (av 5 (w64 r)) 192⟩ :: ⟨gl, Zl⟩ :: ⟨gh, .cells (av 5 (w64 h)) 192⟩ :: ⟨gq, Zq⟩ :: L0) u)
  (hgo : ∀ a u', Mem c (⟨gr, .cells (av 5 (w64 r)) 192⟩ :: ⟨gl, Zl⟩ :: ⟨gh, .cells (av 5 (w64 (nx s r h j))) 192⟩ :: ⟨gq, Zq⟩ :: L0) u' → R .normal a u') :
  bd.wpIn (FW (some lp)) 0 Tryz.prog R (fm (vr v 0 6 ++ [.pointer (some ⟨gr, 0, none⟩), v 7, .pointer (some ⟨gh, 0, none⟩), .slice (some ⟨gq, (16 * j), none⟩) (min 16 (s.size - 16 * j)) (min 16 (s.size - 16 * j))] ++ vr v 10 24)) u := by
 refine code_is (O := Tryz.f104.body.bind findRange) rfl hb <| wpIn_block <| rr_held (by kernel_rfl) (fun _ _ h => hO _ _ h) M (⟨gr, .cells (av 5 (w64 r)) 192⟩ :: ⟨gl, Zl⟩ :: ⟨gh, .cells (av 5 (w64 h)) 192⟩ :: ⟨gq, Zq⟩ :: L0) 6 rfl (by kernel_rfl) (by kernel_rfl) (fun _ _ _ _ _ h => (hP _ _ _ h).elim) fun u1 M => hl_load M 0 rfl (by decide) (by kernel_rfl) (by kernel_rfl) (want_no rfl) (some 23) rfl 192 _ rfl 2 gh 0 (by kernel_rfl) 5 192 (w64 h) rfl 5 (w64 h) (fun j _ => by rw [Nat.zero_add]) (by decide) _ Tryz.underlying192 rfl inz192 <| qV M 1 24 (.slice (some ⟨gq, (16 * j), none⟩) (min 16 (s.size - 16 * j)) (min 16 (s.size - 16 * j))) <| hl_load M 4 rfl (by decide) (by kernel_rfl) (by kernel_rfl) (want_no rfl) (some 27) rfl 192 _ rfl 0 gr 0 (by kernel_rfl) 5 192 (w64 r) rfl 5 (w64 r) (fun j _ => by rw [Nat.zero_add]) (by decide) _ Tryz.underlying192 rfl inz192 <| qO 2 ?_
 refine ZC M 25 (fun w M => c_marked (fun i => bt s (16 * j + i)) (min 16 (s.size - 16 * j)) (by omega) gq (16 * j) (min 16 (s.size - 16 * j)) w M.laid (fun i hi => hZ.cell (M.get 3 rfl) (piece_at s (16 * j) i (by omega)))) fun u2 M => nT ?_
 refine ⟨M, ?_⟩
 refine qO 3 ?_
 refine pC M 26 135 #[.agg (av 5 (w64 h)), .agg (av 5 (w64 (pc s (16 * j) (min 16 (s.size - 16 * j)))))] (.agg (av 5 (w64 (plF h (pc s (16 * j) (min 16 (s.size - 16 * j))))))) (fun w M => c_plus h _ w M.laid) fun u3 M => nT ?_
 refine ⟨M, ?_⟩
 refine qO 5 ?_
 refine pC M 28 137 #[.agg (av 5 (w64 (plF h (pc s (16 * j) (min 16 (s.size - 16 * j)))))), .agg (av 5 (w64 r))] (.agg (av 5 (w64 (nx s r h j)))) (fun w M => c_times _ r w M.laid) fun u4 M => nT ?_
 refine ⟨M, ?_⟩
 refine qZ ?_
 refine ZG M 2 5 (w64 (nx s r h j)) fun u5 M => nT <| au_block ?_
 exact hgo _ _ M
theorem c_chunk (gq n cap : Nat) (w : World) (hL : Laid w) : Calls Tryz.prog 134 #[.slice (some ⟨gq, 0, none⟩) n cap, .int .i64 16] w fun r w' => ∃ g k, r = .returned (.func (.func 162) #[] #[.pointer (some ⟨g, 0, none⟩), .pointer (some ⟨k, 0, none⟩)]) ∧ Mem ⟨w, []⟩ [⟨g, .cells (av 1 (fun _ => .slice (some ⟨gq, 0, none⟩) n cap)) 44⟩, ⟨k, .cells (av 1 (fun _ => .int .i64 16)) 3⟩] w' := by
 go_enter Tryz.func134, Tryz.ntmps134
 have M := Mem.start hL
 refine sR <| pN M 2 (.cells (av 1 (fun _ => .slice (some ⟨gq, 0, none⟩) n cap)) 44) fun g1 u1 M => pN M 3 (.cells (av 1 (fun _ => .int .i64 16)) 3) fun g2 u2 M => rV 1 <| nT <| wp_seq <| sR <| ZE M 5 1 0 <| rV 1 <| nT <| cF <| wp_skip <| au_then <| sq <| wp_ret ?_
 exact bX (.func (.func 162) #[] #[.pointer (some ⟨g1, 0, none⟩), .pointer (some ⟨g2, 0, none⟩)]) ⟨g1, g2, rfl, M⟩
def lpr (st : LoopState) (pe : Option Code) (fn : FuncId) (T : Array Value) (sg bd : Code) (D : Nat) : Loop := { state := st, pending := pe, fn := fn, tmps := T, params := #[22], assign := sg, body := bd, defers := D }
def tF (gr gl gh : Nat) (v : NV) : Array Value := #[v 0, v 1, v 2, v 3, v 4, v 5, .pointer (some ⟨gr, 0, none⟩), .pointer (some ⟨gl, 0, none⟩), .pointer (some ⟨gh, 0, none⟩), v 9, v 10, v 11, v 12, v 13, v 14, v 15, v 16, v 17, v 18, v 19, v 20, v 21, v 22, v 23, v 24, v 25, v 26, v 27, v 28, v 29, v 30, v 31, v 32, v 33]
theorem c_iter (sg bd : Code) (hb : Tryz.f104.body.bind findRange = some (sg, bd)) (s : Yb) (r : NI) (hz : s.size ≤ 200000) (gr gl gh gq gs gn lp D cap : Nat) (Zl Zq : Obj) (hZ : SB Zq cap (vs8 (sb s))) (hcap : s.size ≤ cap) (fn : FuncId) (v : NV) (c : Ctx) (u : World)
  (M : Mem c [⟨gr, .cells (av 5 (w64 r)) 192⟩, ⟨gl, Zl⟩, ⟨gh, .cells (av 5 (w64 (sm s r 0))) 192⟩, ⟨gq, Zq⟩, ⟨gs, .cells (av 1 (fun _ => .slice (some ⟨gq, 0, none⟩) s.size cap)) 44⟩, ⟨gn, .cells (av 1 (fun _ => .int .i64 16)) 3⟩, ⟨D, .deferred (some [])⟩, ⟨lp, .loop (lpr .ready none fn (tF gr gl gh v) sg bd D)⟩] u) : Calls Tryz.prog 162 #[.func (.yield lp) #[] #[], .pointer (some ⟨gs, 0, none⟩), .pointer (some ⟨gn, 0, none⟩)] u fun e u' => (∃ v, e = .returned v) ∧ Mem c [⟨gr, .cells (av 5 (w64 r)) 192⟩, ⟨gl, Zl⟩, ⟨gh, .cells (av 5 (w64 (sm s r ((s.size + 15) / 16)))) 192⟩, ⟨gq, Zq⟩, ⟨gs, .cells (av 1 (fun _ => .slice (some ⟨gq, 0, none⟩) s.size cap)) 44⟩, ⟨gn, .cells (av 1 (fun _ => .int .i64 16)) 3⟩, ⟨D, .deferred (some [])⟩, ⟨lp, .loop (lpr .ready none fn (tF gr gl gh v) sg bd D)⟩] u' := by
 go_enter Tryz.func162, Tryz.ntmps162
 refine sq <| wp_block ?_
 obtain ⟨N, hN⟩ : ∃ N, N = (s.size + 15) / 16 := ⟨_, rfl⟩
 rw [← hN]
 refine au_loop (fun j a u => ∃ v1 : NV, a = (fm ([.func (.yield lp) #[] #[], .pointer (some ⟨gs, 0, none⟩), .pointer (some ⟨gn, 0, none⟩), undef, .int .i64 ((16 * j : Nat) : Int)] ++ vr v1 5 26)) ∧ Mem c [⟨gr, .cells (av 5 (w64 r)) 192⟩, ⟨gl, Zl⟩, ⟨gh, .cells (av 5 (w64 (sm s r j))) 192⟩, ⟨gq, Zq⟩, ⟨gs, .cells (av 1 (fun _ => .slice (some ⟨gq, 0, none⟩) s.size cap)) 44⟩, ⟨gn, .cells (av 1 (fun _ => .int .i64 16)) 3⟩, ⟨D, .deferred (some [])⟩, ⟨lp, .loop (lpr .ready none fn (tF gr gl gh v) sg bd D)⟩] u) N (exS M) ?_ ?_
 ·intro j a u0 hj hI
  clear M
  obtain ⟨v1, rfl, M⟩ := hI
  refine wp_seq <| sR <| rV 1 <| ZE M 7 4 0 <| rV 1 <| ZT 9 (((16 * j : Nat) : Int) < ((s.size : Nat) : Int)) <| nT <| cT <| wp_skip <| au_then <| wp_seq <| wp_block <| wp_seq <| rg_tail M 6 (by kernel_rfl) (by kernel_rfl) ?_
  simp only [List.take_succ_cons, List.take_zero]
  refine eE M 13 5 0 <| eE M 14 4 0 <| kR 1 <| kH 16 (.slice (some ⟨gq, (0 + 16 * j), none⟩) (s.size - 16 * j) (cap - 16 * j)) (run_slL 44 5 Tryz.underlying44 inz5 _ _ rfl gq 0 s.size cap (by kernel_rfl) .i64 (16 * j) (by kernel_rfl) (by omega) (by omega)) <| kR 1 <| kH 18 (.int .i64 ((min 16 (s.size - 16 * j) : Nat) : Int)) (fun w => Eq.trans (b := .ok (.value (.int .i64 (if ((s.size - 16 * j : Nat) : Int) < (16 : Int) then ((s.size - 16 * j : Nat) : Int) else (16 : Int)))) w) (by kernel_rfl) (by rw [show (if ((s.size - 16 * j : Nat) : Int) < (16 : Int) then ((s.size - 16 * j : Nat) : Int) else (16 : Int)) = ((min 16 (s.size - 16 * j) : Nat) : Int) from min_if 16 (s.size - 16 * j)])) <| kl_nil fun u1 M => rV 1 <| nT <| wp_seq <| rg_yieldN 10 (by kernel_rfl) (fun _ _ h => by obtain ⟨⟨_, e⟩, _⟩ := h; cases e) ?_
  simp only [List.take_succ_cons, List.take_zero, List.drop_succ_cons, List.drop_zero]
  refine rV 1 <| ZE M 20 4 0 <| rV 3 <| ZI 24 (((16 * j : Nat) : Int) + ((min 16 (s.size - 16 * j) : Nat) : Int)) ((16 * j + min 16 (s.size - 16 * j) : Nat) : Int) <| rV 2 <| ZI 27 (((16 * j : Nat) : Int) + ((min 16 (s.size - 16 * j) : Nat) : Int)) ((16 * j + min 16 (s.size - 16 * j) : Nat) : Int) <| pH 28 (.slice (some ⟨gq, (16 * j), none⟩) (min 16 (s.size - 16 * j)) (min 16 (s.size - 16 * j))) (fun w => Eq.trans (run_slM 44 5 Tryz.underlying44 inz5 _ _ _ _ rfl gq 0 s.size cap (by kernel_rfl) .i64 .i64 .i64 (16 * j) (16 * j + min 16 (s.size - 16 * j)) (by kernel_rfl) (by kernel_rfl) (by kernel_rfl) (by omega) (by omega) w) (by rw [Nat.zero_add, Nat.add_sub_cancel_left])) <| nT <| pl_yield lp (lpr .ready none fn (tF gr gl gh v) sg bd D) #[.slice (some ⟨gq, (16 * j), none⟩) (min 16 (s.size - 16 * j)) (min 16 (s.size - 16 * j))] (M.get 7 rfl) rfl rfl (by kernel_rfl) (fun _ => by kernel_rfl) (want_no rfl) <| code_is1 (O := Tryz.f104.body.bind findRange) rfl hb <| fr_is (b := (fm (vr v 0 6 ++ [.pointer (some ⟨gr, 0, none⟩), .pointer (some ⟨gl, 0, none⟩), .pointer (some ⟨gh, 0, none⟩)] ++ vr v 9 13 ++ [.slice (some ⟨gq, (16 * j), none⟩) (min 16 (s.size - 16 * j)) (min 16 (s.size - 16 * j))] ++ vr v 23 11))) (by kernel_rfl) <| rr_lit (by kernel_rfl) (fun _ _ h => h) <| rV 1 <| nT ?_
  refine ⟨M.get 7 rfl, ?_⟩
  have M2 := M.putO 7 lp _ (.loop { lpr .ready none fn (tF gr gl gh v) sg bd D with state := .busy }) rfl
  refine fr_is (b := (fm (vr v 0 6 ++ [.pointer (some ⟨gr, 0, none⟩), .pointer (some ⟨gl, 0, none⟩), .pointer (some ⟨gh, 0, none⟩), .slice (some ⟨gq, (16 * j), none⟩) (min 16 (s.size - 16 * j)) (min 16 (s.size - 16 * j))] ++ vr v 10 12 ++ [.slice (some ⟨gq, (16 * j), none⟩) (min 16 (s.size - 16 * j)) (min 16 (s.size - 16 * j))] ++ vr v 23 11))) (by kernel_rfl) ?_
  refine r_body sg bd hb s r (sm s r j) j (by omega) gr gl gh gq cap lp Zl Zq hZ [⟨gs, .cells (av 1 (fun _ => .slice (some ⟨gq, 0, none⟩) s.size cap)) 44⟩, ⟨gn, .cells (av 1 (fun _ => .int .i64 16)) 3⟩, ⟨D, .deferred (some [])⟩, ⟨lp, .loop { lpr .ready none fn (tF gr gl gh v) sg bd D with state := .busy }⟩] (fun k_ => ([v 0, v 1, v 2, v 3, v 4, v 5, .pointer (some ⟨gr, 0, none⟩), .pointer (some ⟨gl, 0, none⟩), .pointer (some ⟨gh, 0, none⟩), .slice (some ⟨gq, (16 * j), none⟩) (min 16 (s.size - 16 * j)) (min 16 (s.size - 16 * j)), v 10, v 11, v 12, v 13, v 14, v 15, v 16, v 17, v 18, v 19, v 20, v 21, .slice (some ⟨gq, (16 * j), none⟩) (min 16 (s.size - 16 * j)) (min 16 (s.size - 16 * j)), v 23, v 24, v 25, v 26, v 27, v 28, v 29, v 30, v 31, v 32, v 33] : List Value).getD (k_ - 0) undef) c _ _ (fun _ _ h => h) (fun _ _ _ h => h) M2 ?_
  intro a9 u9 M3
  refine ⟨lpr .busy none fn (tF gr gl gh v) sg bd D, M3.get 7 rfl, ?_⟩
  have M4 := M3.putO 7 lp _ (.loop { lpr .busy none fn (tF gr gl gh v) sg bd D with state := .ready, pending := none }) rfl
  generalize u9.putObj lp _ = u8 at M4 ⊢
  clear M
  have M : Mem c [⟨gr, .cells (av 5 (w64 r)) 192⟩, ⟨gl, Zl⟩, ⟨gh, .cells (av 5 (w64 (sm s r (j + 1)))) 192⟩, ⟨gq, Zq⟩, ⟨gs, .cells (av 1 (fun _ => .slice (some ⟨gq, 0, none⟩) s.size cap)) 44⟩, ⟨gn, .cells (av 1 (fun _ => .int .i64 16)) 3⟩, ⟨D, .deferred (some [])⟩, ⟨lp, .loop (lpr .ready none fn (tF gr gl gh v) sg bd D)⟩] u8 := M4
  refine in_list (by kernel_rfl) (fun _ _ h => by obtain ⟨⟨_, e⟩, _⟩ := h; cases e) <| rV 1 <| nT <| cF <| wp_skip <| au_block <| au_then <| rg_lit <| rV 1 <| ZE M 11 5 0 <| ZI 12 (((16 * j : Nat) : Int) + 16) ((16 * (j + 1) : Nat) : Int) <| rV 1 <| nT ?_
  exact exS M
 ·intro a u0 hI
  clear M
  obtain ⟨v1, rfl, M⟩ := hI
  refine wp_seq <| sR <| rV 1 <| ZE M 7 4 0 <| rV 1 <| ZF 9 (((16 * N : Nat) : Int) < ((s.size : Nat) : Int)) <| nT <| cF <| wp_exit <| au_then_exit <| au_then_exit <| au_block_exit ?_
  exact bodyPost_end (v := .tuple #[]) (results_none Tryz.results162 _ _) (by kernel_rfl) ⟨⟨_, rfl⟩, M⟩
open Go.RowKit
def rF (key : Yb) : Nat → Int := noF (fc2 (fc1 (pd (bt (key.extract 0 16)) 16)))
def lF (key : Yb) : Nat → Int := noF (pd (bt (key.extract 16 key.size)) 16)
def tgS (key s : Yb) : ByteArray := txS (plF (lsF (sm s (rF key) ((s.size + 15) / 16))) (lF key))
theorem c_iterT (sg bd : Code) (hb : Tryz.f104.body.bind findRange = some (sg, bd)) (s : Yb) (r : NI) (hz : s.size ≤ 200000) (gr gl gh gq gs gn lp D cap : Nat) (Zl Zq : Obj) (hZ : SB Zq cap (vs8 (sb s))) (hcap : s.size ≤ cap) (fn : FuncId) (v : NV) (T : Array Value) (hT : T = tF gr gl gh v) (c : Ctx) (u : World)
  (M : Mem c [⟨gr, .cells (av 5 (w64 r)) 192⟩, ⟨gl, Zl⟩, ⟨gh, .cells (av 5 (w64 (sm s r 0))) 192⟩, ⟨gq, Zq⟩, ⟨gs, .cells (av 1 (fun _ => .slice (some ⟨gq, 0, none⟩) s.size cap)) 44⟩, ⟨gn, .cells (av 1 (fun _ => .int .i64 16)) 3⟩, ⟨D, .deferred (some [])⟩, ⟨lp, .loop (lpr .ready none fn T sg bd D)⟩] u) : Calls Tryz.prog 162 #[.func (.yield lp) #[] #[], .pointer (some ⟨gs, 0, none⟩), .pointer (some ⟨gn, 0, none⟩)] u fun e u' => (∃ v, e = .returned v) ∧ ∃ q : Loop, q.state ≠ .busy ∧ q.pending = none ∧ Mem c [⟨gr, .cells (av 5 (w64 r)) 192⟩, ⟨gl, Zl⟩, ⟨gh, .cells (av 5 (w64 (sm s r ((s.size + 15) / 16)))) 192⟩, ⟨gq, Zq⟩, ⟨gs, .cells (av 1 (fun _ => .slice (some ⟨gq, 0, none⟩) s.size cap)) 44⟩, ⟨gn, .cells (av 1 (fun _ => .int .i64 16)) 3⟩, ⟨D, .deferred (some [])⟩, ⟨lp, .loop q⟩] u' := by
 subst hT
 exact (c_iter sg bd hb s r hz gr gl gh gq gs gn lp D cap Zl Zq hZ hcap fn v c u M).mono fun e u' h => ⟨h.1, lpr .ready none fn (tF gr gl gh v) sg bd D, (show LoopState.ready ≠ LoopState.busy by decide), rfl, h.2⟩
theorem c_TagA (key s : Yb) (hk : key.size = 32) (hz : s.size ≤ 200000) (w : World) (hL : Laid w) : Cs 104 #[.string key, .string s] w (.tuple #[.string (tgS key s), .int .i64 0]) := by
 refine (callsIn_wide (n := 0)).1 (callsIn_of_wp_marks Tryz.func104 rfl trivial ?_)
 refine (wpIn_wide (n := 0)).2 ?_
 refine fr_w (b := (fm ([.string key, .string s] ++ und 32))) (by kernel_rfl) ?_
 have M := Mem.start hL
 refine sq <| wp_seq <| sR <| rV 2 ?_
 refine ZD 12 ((key.size : Int) = 32) ?_
 refine nT <| cF <| wp_skip <| au_then <| wp_seq ?_
 refine rg_allocs M 6 [(6, fun g => .pointer (some ⟨g, 0, none⟩), (.cells (av 5 (w64 (fun _ => 0))) 192)), (7, fun g => .pointer (some ⟨g, 0, none⟩), (.cells (av 5 (w64 (fun _ => 0))) 192))] (by kernel_rfl) (by kernel_rfl) (⟨rfl, rfl, fun _ _ => by kernel_rfl, ⟨rfl, rfl, fun _ _ => by kernel_rfl, trivial⟩⟩) (by decide) ?_
 simp only [List.take_succ_cons, List.take_zero]
 refine kR 1 ?_
 refine kH 14 (.string (key.extract 0 16)) (run_strh 9 Tryz.underlying9 _ _ rfl key (by kernel_rfl) .i64 16 (by kernel_rfl) (by omega) _ rfl) ?_
 refine kC M 15 132 #[.string (key.extract 0 16)] (.agg (av 5 (w64 (rF key)))) (fun w M => c_factor _ (by rw [ByteArray.size_extract]; omega) w M.laid) ?_
 refine kR 1 ?_
 refine kH 17 (.string (key.extract 16 key.size)) (run_strl 9 Tryz.underlying9 _ _ rfl key (by kernel_rfl) .i64 16 (by kernel_rfl) (by omega) _ rfl) ?_
 refine kC M 18 133 #[.string (key.extract 16 key.size)] (.agg (av 5 (w64 (lF key)))) (fun w M => c_plain _ (by rw [ByteArray.size_extract]; omega) w M.laid) ?_
 refine kl_nil fun u1 g1 g2 M => ?_
 refine ZG M 0 5 (w64 (rF key)) fun u2 M => ?_
 refine ZG M 1 5 (w64 (lF key)) fun u3 M => ?_
 refine nT <| sR ?_
 refine pN M 8 (.cells (av 5 (w64 (fun _ => 0))) 192) fun g3 u4 M => ?_
 refine nT <| wp_seq <| sR <| rV 1 ?_
 refine pl_conv M (want_no rfl) (some 20) rfl _ rfl s (by kernel_rfl) ?_
 intro gq capq Zq u5 hZq M
 have hcap : s.size ≤ capq := by have := hZq.le; rwa [vs8_length, sb_length] at this
 refine pl_calltwo M (want_no rfl) (some 21) rfl 134 #[.slice (some ⟨gq, 0, none⟩) s.size capq, .int .i64 16] (fun g k => .func (.func 162) #[] #[.pointer (some ⟨g, 0, none⟩), .pointer (some ⟨k, 0, none⟩)]) (.cells (av 1 (fun _ => .slice (some ⟨gq, 0, none⟩) s.size capq)) 44) (.cells (av 1 (fun _ => .int .i64 16)) 3) (fun _ => by kernel_rfl) (fun w M => c_chunk gq s.size capq w M.laid) ?_
 intro gs gn u6 M
 refine nT ?_
 refine wp_block ?_
 refine fr_w (b := (fm ([.string key, .string s, undef, undef, .string ⟨#[]⟩, .int .i64 0, .pointer (some ⟨g1, 0, none⟩), .pointer (some ⟨g2, 0, none⟩), .pointer (some ⟨g3, 0, none⟩), undef, .string key, .int .i64 (key.size : Int), .bool false, .string key, .string (key.extract 0 16), .agg (av 5 (w64 (rF key))), .string key, .string (key.extract 16 key.size), .agg (av 5 (w64 (lF key))), .string s, .slice (some ⟨gq, 0, none⟩) s.size capq, .func (.func 162) #[] #[.pointer (some ⟨gs, 0, none⟩), .pointer (some ⟨gn, 0, none⟩)]] ++ und 12))) (by kernel_rfl) ?_
 refine wp_range (gf := 162) (lb := #[.pointer (some ⟨gs, 0, none⟩), .pointer (some ⟨gn, 0, none⟩)]) rfl (enters_of Tryz.func162 (by kernel_rfl) rfl) ?_
 intro fn
 refine (c_iterT _ _ rfl s (rF key) hz g1 g2 g3 gq gs gn _ _ capq _ Zq hZq hcap fn (fun k_ => ([.string key, .string s, undef, undef, .string ⟨#[]⟩, .int .i64 0, .pointer (some ⟨g1, 0, none⟩), .pointer (some ⟨g2, 0, none⟩), .pointer (some ⟨g3, 0, none⟩), undef, .string key, .int .i64 (key.size : Int), .bool false, .string key, .string (key.extract 0 16), .agg (av 5 (w64 (rF key))), .string key, .string (key.extract 16 key.size), .agg (av 5 (w64 (lF key))), .string s, .slice (some ⟨gq, 0, none⟩) s.size capq, .func (.func 162) #[] #[.pointer (some ⟨gs, 0, none⟩), .pointer (some ⟨gn, 0, none⟩)], undef, undef, undef, undef, undef, undef, undef, undef, undef, undef, undef, undef] : List Value).getD (k_ - 0) undef) _ (by kernel_rfl) ⟨w, []⟩ _ (M.alloc2 _ _)).mono ?_
 rintro e w3 ⟨he, q, hr1, hr2, M2⟩
 refine ⟨he, q, M2.get 7 rfl, hr1, ?_⟩
 rw [hr2]
 have M3 := M2.putO 7 _ _ (.loop { q with state := .exhausted, pending := none }) rfl
 clear M M2
 have M := M3
 refine au_block ?_
 refine au_then <| wp_seq ?_
 refine rg_tail M 6 (by kernel_rfl) (by kernel_rfl) ?_
 simp only [List.take_succ_cons, List.take_zero]
 refine kA M 29 2 5 (w64 (sm s (rF key) ((s.size + 15) / 16))) ?_
 refine kC M 30 138 #[.agg (av 5 (w64 (sm s (rF key) ((s.size + 15) / 16))))] (.agg (av 5 (w64 (lsF (sm s (rF key) ((s.size + 15) / 16)))))) (fun w M => c_least _ w M.laid) ?_
 refine kA M 31 1 5 (w64 (lF key)) ?_
 refine kC M 32 135 #[.agg (av 5 (w64 (lsF (sm s (rF key) ((s.size + 15) / 16))))), .agg (av 5 (w64 (lF key)))] (.agg (av 5 (w64 (plF (lsF (sm s (rF key) ((s.size + 15) / 16))) (lF key))))) (fun w M => c_plus _ _ w M.laid) ?_
 refine kC M 33 139 #[.agg (av 5 (w64 (plF (lsF (sm s (rF key) ((s.size + 15) / 16))) (lF key))))] (.string (tgS key s)) (fun w M => c_text _ w M.laid) ?_
 refine kR 1 ?_
 refine kl_nil fun u7 M => ?_
 refine rV 1 <| nT <| wp_ret ?_
 refine marks_ret (v := .tuple #[.string (tgS key s), .int .i64 0]) rfl (M.get 6 rfl) (fun w => results_tmp2 Tryz.results104 _ w _ _ (by kernel_rfl) (by kernel_rfl)) ⟨rfl, below_grown (M.putO 6 _ _ (.deferred none) rfl).old⟩
open Go.RowKit
theorem ua_eq (x y : Int) (h0 : 0 ≤ x + y) (h1 : x + y < 18446744073709551616) : ua x y = x + y := by
 unfold ua
 simp [IntKind.wrap, IntKind.signed, IntKind.bits]
 omega
theorem um_eq (x y : Int) (h0 : 0 ≤ x * y) (h1 : x * y < 18446744073709551616) : um x y = x * y := by
 unfold um
 simp [IntKind.wrap, IntKind.signed, IntKind.bits]
 omega
theorem sl_eq (x : Int) (n : Nat) (h0 : 0 ≤ x * 2 ^ n) (h1 : x * 2 ^ n < 18446744073709551616) : sl x n = x * 2 ^ n := by
 unfold sl
 simp [IntKind.wrap, IntKind.signed, IntKind.bits]
 omega
theorem sr_eq (x : Int) (n : Nat) : sr x n = x / 2 ^ n := by
 unfold sr
 rw [Int.fdiv_eq_ediv_of_nonneg x (Int.le_of_lt (Int.pow_pos (by decide)))]
theorem cv8_eq (x : Int) : cv .u8 x = x % 256 := by
 unfold cv
 simp [IntKind.wrap, IntKind.signed, IntKind.bits]
theorem cv64_eq (x : Int) (h0 : 0 ≤ x) (h1 : x < 18446744073709551616) : cv .u64 x = x := by
 unfold cv
 simp [IntKind.wrap, IntKind.signed, IntKind.bits]
 omega
theorem wrap_bv (b : BitVec 64) : IntKind.wrap .u64 (b.toNat : Int) = (b.toNat : Int) := by
 have := b.isLt
 simp [IntKind.wrap, IntKind.signed, IntKind.bits]
 omega
theorem bv_nat (n : Nat) (h : n < 18446744073709551616) : (BitVec.ofInt 64 (n : Int)).toNat = n := by
 rw [BitVec.toNat_ofInt]
 omega
theorem un_nat (n m : Nat) (hn : n < 18446744073709551616) (hm : m < 18446744073709551616) : un (n : Int) (m : Int) = ((n &&& m : Nat) : Int) := by
 unfold un
 rw [wrap_bv, BitVec.toNat_and, bv_nat n hn, bv_nat m hm]
theorem uo_nat (n m : Nat) (hn : n < 18446744073709551616) (hm : m < 18446744073709551616) : uo (n : Int) (m : Int) = ((n ||| m : Nat) : Int) := by
 unfold uo
 rw [wrap_bv, BitVec.toNat_or, bv_nat n hn, bv_nat m hm]
theorem un_low (k : Nat) (hk : k ≤ 63) (x : Int) (h0 : 0 ≤ x) (h1 : x < 18446744073709551616) : un x (((2 ^ k - 1 : Nat) : Nat) : Int) = x % ((2 ^ k : Nat) : Int) := by
 obtain ⟨n, rfl⟩ : ∃ n : Nat, x = (n : Int) := ⟨x.toNat, by omega⟩
 have hp : 2 ^ k ≤ 2 ^ 63 := Nat.pow_le_pow_right (by decide) hk
 rw [un_nat n _ (by omega) (by omega), Nat.and_two_pow_sub_one_eq_mod]
 omega
theorem un26 (x : Int) (h0 : 0 ≤ x) (h1 : x < 18446744073709551616) : un x 67108863 = x % 67108864 := un_low 26 (by decide) x h0 h1
theorem un8 (x : Int) (h0 : 0 ≤ x) (h1 : x < 18446744073709551616) : un x 255 = x % 256 := un_low 8 (by decide) x h0 h1
theorem un2 (x : Int) (h0 : 0 ≤ x) (h1 : x < 18446744073709551616) : un x 3 = x % 4 := un_low 2 (by decide) x h0 h1
theorem un4 (x : Int) (h0 : 0 ≤ x) (h1 : x < 18446744073709551616) : un x 15 = x % 16 := un_low 4 (by decide) x h0 h1
theorem uo_add (k : Nat) (x y : Int) (h0 : 0 ≤ x) (h1 : x < ((2 ^ k : Nat) : Int)) (h2 : 0 ≤ y) (h3 : x + y * ((2 ^ k : Nat) : Int) < 18446744073709551616) : uo x (y * ((2 ^ k : Nat) : Int)) = x + y * ((2 ^ k : Nat) : Int) := by
 obtain ⟨n, rfl⟩ : ∃ n : Nat, x = (n : Int) := ⟨x.toNat, by omega⟩
 obtain ⟨m, rfl⟩ : ∃ m : Nat, y = (m : Int) := ⟨y.toNat, by omega⟩
 have hn : n < 2 ^ k := by omega
 have e : ((m : Int) * ((2 ^ k : Nat) : Int)) = ((2 ^ k * m : Nat) : Int) := by rw [Nat.mul_comm, Int.natCast_mul]
 rw [e] at h3 ⊢
 rw [uo_nat n _ (by omega) (by omega), Nat.or_comm, ← Nat.two_pow_add_eq_or_of_lt hn]
 omega
def V (b : Int) : Nat → (Nat → Int) → Int
 | 0, _ => 0
 | n + 1, f => V b n f + f n * b ^ n
theorem V_congr (b : Int) : ∀ (n : Nat) (f g : NI), (∀ i, i < n → f i = g i) → V b n f = V b n g
 | 0, _, _, _ => rfl
 | n + 1, f, g, h => by
  unfold V
  rw [V_congr b n f g (fun i hi => h i (by omega)), h n (by omega)]
theorem V_upd (b : Int) : ∀ (n : Nat) (f : NI) (k : Nat) (x : Int), k < n → V b n (upd f k x) = V b n f + (x - f k) * b ^ k
 | 0, _, _, _, h => absurd h (by omega)
 | n + 1, f, k, x, h => by
  unfold V
  by_cases e : k = n
  ·subst e
   rw [V_congr b k (upd f k x) f (fun i hi => if_neg (by omega)), show upd f k x k = x from if_pos rfl, Int.sub_mul]
   omega
  ·rw [V_upd b n f k x (by omega), show upd f k x n = f n from if_neg (by omega)]
   omega
theorem V_add (b : Int) : ∀ (n : Nat) (f g : NI), V b n (fun i => f i + g i) = V b n f + V b n g
 | 0, _, _ => rfl
 | n + 1, f, g => by
  unfold V
  rw [V_add b n f g, Int.add_mul]
  omega
theorem V_mul (b c : Int) : ∀ (n : Nat) (f : NI), V b n (fun i => c * f i) = c * V b n f
 | 0, _ => by simp [V]
 | n + 1, f => by
  unfold V
  rw [V_mul b c n f, Int.mul_add, Int.mul_assoc]
theorem V_split (b : Int) (n : Nat) : ∀ (m : Nat) (f : NI), V b (n + m) f = V b n f + b ^ n * V b m (fun i => f (n + i))
 | 0, _ => by simp [V]
 | m + 1, f => by
  show V b (n + m) f + f (n + m) * b ^ (n + m) = _
  rw [V_split b n m f]
  show _ = V b n f + b ^ n * (V b m (fun i => f (n + i)) + f (n + m) * b ^ m)
  rw [Int.mul_add, Int.pow_add]
  have : f (n + m) * (b ^ n * b ^ m) = b ^ n * (f (n + m) * b ^ m) := by grind
  omega
theorem V_nn (b : Int) (hb : 0 ≤ b) : ∀ (n : Nat) (f : NI), (∀ i, i < n → 0 ≤ f i) → 0 ≤ V b n f
 | 0, _, _ => by simp [V]
 | n + 1, f, h => by
  unfold V
  have h1 := V_nn b hb n f (fun i hi => h i (by omega))
  have h2 := Int.mul_nonneg (h n (by omega)) (show (0 : Int) ≤ b ^ n from Int.pow_nonneg hb)
  omega
theorem V_le (b : Int) (hb : 2 ≤ b) (c : Int) (hc : 0 ≤ c) : ∀ (n : Nat) (f : NI), (∀ i, i < n → f i ≤ c * (b - 1)) → V b n f ≤ c * (b ^ n - 1)
 | 0, _, _ => by simp [V]
 | n + 1, f, h => by
  unfold V
  have h1 := V_le b hb c hc n f (fun i hi => h i (by omega))
  have hp : 0 ≤ b ^ n := Int.pow_nonneg (by omega)
  have h2 := Int.mul_le_mul_of_nonneg_right (h n (by omega)) hp
  have e : c * (b - 1) * b ^ n = c * (b ^ (n + 1) - 1) - c * (b ^ n - 1) := by
   rw [Int.pow_succ]
   grind
  omega
theorem V_lt (b : Int) (hb : 2 ≤ b) (n : Nat) (f : NI) (h : ∀ i, i < n → f i < b) : V b n f < b ^ n := by
 have := V_le b hb 1 (by decide) n f (fun i hi => by have := h i hi; omega)
 omega
structure Ch (b : Int) (a : NI) (j : Nat) (c : Int) (s : NI) : Prop where
 c0 : 0 ≤ c
 c1 : c < 4611686018427387904
 val : V b j s + c * b ^ j = V b j a
 dig : ∀ i, i < j → 0 ≤ s i ∧ s i < b
theorem chain (m : Int) (sh : Nat) (b : Int) (hb : 2 ≤ b) (hm : ∀ x, 0 ≤ x → x < 18446744073709551616 → un x m = x % b) (hs : ∀ x, sr x sh = x / b) (a : NI) : ∀ (j : Nat), (∀ i, i < j → 0 ≤ a i ∧ a i < 4611686018427387904) → Ch b a j (cy sh a j) (st m sh a j)
 | 0, _ => ⟨by simp [cy], by simp [cy], by simp [V, cy], fun i hi => absurd hi (by omega)⟩
 | j + 1, h => by
  have ih := chain m sh b hb hm hs a j (fun i hi => h i (by omega))
  have hj := h j (by omega)
  have c0 := ih.c0
  have c1 := ih.c1
  have e1 : ua (a j) (cy sh a j) = a j + cy sh a j := ua_eq _ _ (by omega) (by omega)
  have e2 : cy sh a (j + 1) = (a j + cy sh a j) / b := by
   show sr (ua (a j) (cy sh a j)) sh = _
   rw [e1, hs]
  have e3 : st m sh a (j + 1) = upd (st m sh a j) j ((a j + cy sh a j) % b) := by
   show upd (st m sh a j) j (un (ua (a j) (cy sh a j)) m) = _
   rw [e1, hm _ (by omega) (by omega)]
  have hx : 0 ≤ a j + cy sh a j := by omega
  have hx1 : a j + cy sh a j < 9223372036854775808 := by omega
  have hv := ih.val
  have hd := ih.dig
  rw [e2, e3]
  generalize cy sh a j = c at *
  generalize st m sh a j = s at *
  have q0 : 0 ≤ (a j + c) / b := Int.ediv_nonneg hx (by omega)
  have r0 : 0 ≤ (a j + c) % b := Int.emod_nonneg _ (by omega)
  have r1 : (a j + c) % b < b := Int.emod_lt_of_pos _ (by omega)
  have eq : (a j + c) % b + b * ((a j + c) / b) = a j + c := Int.emod_add_mul_ediv _ _
  refine ⟨q0, ?_, ?_, ?_⟩
  ·have : 2 * ((a j + c) / b) ≤ b * ((a j + c) / b) := Int.mul_le_mul_of_nonneg_right hb q0
   omega
  ·unfold V
   rw [V_congr b j (upd s j _) s (fun i hi => if_neg (by omega)), show upd s j ((a j + c) % b) j = (a j + c) % b from if_pos rfl, Int.pow_succ]
   generalize (a j + c) / b = q at *
   generalize (a j + c) % b = r at *
   have e : r * b ^ j + q * (b ^ j * b) = (a j + c) * b ^ j := by
    rw [← eq]
    grind
   rw [Int.add_mul] at e
   omega
  ·intro i hi
   by_cases e : i = j
   ·subst e
    rw [show upd s i ((a i + c) % b) i = (a i + c) % b from if_pos rfl]
    exact ⟨r0, r1⟩
   ·rw [show upd s j ((a j + c) % b) i = s i from if_neg e]
    exact hd i (by omega)
theorem sr26 (x : Int) : sr x 26 = x / 67108864 := sr_eq x 26
theorem sr8 (x : Int) : sr x 8 = x / 256 := sr_eq x 8
theorem sr2 (x : Int) : sr x 2 = x / 4 := sr_eq x 2
theorem chain26 (a : NI) (j : Nat) (h : ∀ i, i < j → 0 ≤ a i ∧ a i < 4611686018427387904) : Ch 67108864 a j (cy 26 a j) (st 67108863 26 a j) := chain 67108863 26 67108864 (by decide) un26 sr26 a j h
theorem chain8 (a : NI) (j : Nat) (h : ∀ i, i < j → 0 ≤ a i ∧ a i < 4611686018427387904) : Ch 256 a j (cy 8 a j) (st 255 8 a j) := chain 255 8 256 (by decide) un8 sr8 a j h
theorem Ch.cut {b : Int} {a s : NI} {j : Nat} {c : Int} (h : Ch b a j c s) (hb : 2 ≤ b) : c = V b j a / b ^ j ∧ V b j s = V b j a % b ^ j := by
 have h0 := V_nn b (by omega) j s (fun i hi => (h.dig i hi).1)
 have h1 := V_lt b hb j s (fun i hi => (h.dig i hi).2)
 have hp : 0 < b ^ j := Int.pow_pos (by omega)
 rw [← h.val]
 constructor
 ·rw [Int.add_mul_ediv_right _ _ (by omega), Int.ediv_eq_zero_of_lt h0 h1]
  omega
 ·rw [Int.add_mul_emod_self_right, Int.emod_eq_of_lt h0 h1]
open Go.RowKit
theorem pB5 : (67108864 : Int) ^ 5 = 1361129467683753853853498429727072845824 := by decide
theorem s5_val (a : NI) (h : ∀ i, i < 5 → 0 ≤ a i ∧ a i < 4611686018427387904) : (c5 a = V 67108864 5 a / 1361129467683753853853498429727072845824 ∧ V 67108864 5 (s5 a) = V 67108864 5 a % 1361129467683753853853498429727072845824) ∧ (∀ i, i < 5 → 0 ≤ s5 a i ∧ s5 a i < 67108864) ∧ 0 ≤ c5 a ∧ c5 a < 4611686018427387904 := by
 have C := chain26 a 5 h
 have H := C.cut (by decide)
 rw [pB5] at H
 exact ⟨H, C.dig, C.c0, C.c1⟩
theorem V0 (b : Int) (n : Nat) (f : NI) (x : Int) (h : 0 < n) : V b n (upd f 0 x) = V b n f + (x - f 0) := by
 rw [V_upd b n f 0 x h]
 simp
theorem up_at (f : NI) (k : Nat) (x : Int) : upd f k x k = x := if_pos rfl
theorem up_ne (f : NI) (k : Nat) (x : Int) {j : Nat} (h : j ≠ k) : upd f k x j = f j := if_neg h
theorem cr1_val (a : NI) (h : ∀ i, i < 5 → 0 ≤ a i ∧ a i < 1152921504606846976) : V 67108864 5 (cr1 a) = V 67108864 5 a % 1361129467683753853853498429727072845824 + 5 * (V 67108864 5 a / 1361129467683753853853498429727072845824) ∧ (∀ i, i < 5 → 0 ≤ cr1 a i ∧ cr1 a i < 67108864 + 5 * (V 67108864 5 a / 1361129467683753853853498429727072845824)) ∧ 0 ≤ V 67108864 5 a / 1361129467683753853853498429727072845824 ∧ V 67108864 5 a / 1361129467683753853853498429727072845824 < 34359738368 := by
 obtain ⟨⟨h1, h2⟩, h3, h4, h5⟩ := s5_val a (fun i hi => by have := h i hi; omega)
 have n0 := V_nn 67108864 (by decide) 5 a (fun i hi => (h i hi).1)
 have n1 := V_le 67108864 (by decide) 34359738368 (by decide) 5 a (fun i hi => by have := h i hi; omega)
 rw [pB5] at n1
 have q0 : 0 ≤ V 67108864 5 a / 1361129467683753853853498429727072845824 := by omega
 have q1 : V 67108864 5 a / 1361129467683753853853498429727072845824 < 34359738368 := by omega
 have z := h3 0 (by decide)
 have e : cr1 a = upd (s5 a) 0 (s5 a 0 + 5 * (V 67108864 5 a / 1361129467683753853853498429727072845824)) := by
  unfold cr1
  rw [h1]
  generalize V 67108864 5 a / 1361129467683753853853498429727072845824 = q at *
  rw [um_eq q 5 (by omega) (by omega), ua_eq _ _ (by omega) (by omega), Int.mul_comm]
 refine ⟨?_, ?_, q0, q1⟩
 ·rw [e, V0 _ _ _ _ (by decide), h2]
  omega
 ·intro i hi
  have := h3 i hi
  rw [e]
  by_cases c : i = 0
  ·subst c
   rw [up_at]
   omega
  ·rw [up_ne _ _ _ c]
   omega
structure Good (h : NI) : Prop where
 part : ∀ i, i < 5 → 0 ≤ h i ∧ h i < 67108870
 lt : V 67108864 5 h < 1361129467683753853853498429727072845824
theorem Good.nn {h : NI} (g : Good h) : 0 ≤ V 67108864 5 h := V_nn _ (by decide) 5 h (fun i hi => (g.part i hi).1)
theorem cr_val (a : NI) (h : ∀ i, i < 5 → 0 ≤ a i ∧ a i < 1152921504606846976) : Good (crF a) ∧ ∃ k, V 67108864 5 a = V 67108864 5 (crF a) + k * 1361129467683753853853498429727072845819 := by
 obtain ⟨h1, h2, h3, h4⟩ := cr1_val a h
 have n0 := V_nn 67108864 (by decide) 5 a (fun i hi => (h i hi).1)
 obtain ⟨g1, g2, g3, g4⟩ := cr1_val (cr1 a) (fun i hi => by have := h2 i hi; omega)
 have e : crF a = cr1 (cr1 a) := rfl
 rw [h1] at g1 g2 g3
 rw [e]
 have f1 : V 67108864 5 (cr1 (cr1 a)) < 1361129467683753853853498429727072845824 := by
  rw [g1]
  generalize V 67108864 5 a = v at *
  omega
 have f2 : (V 67108864 5 a % 1361129467683753853853498429727072845824 + 5 * (V 67108864 5 a / 1361129467683753853853498429727072845824)) / 1361129467683753853853498429727072845824 ≤ 1 := by
  generalize V 67108864 5 a = v at *
  omega
 refine ⟨⟨fun i hi => ?_, f1⟩, V 67108864 5 a / 1361129467683753853853498429727072845824 + (V 67108864 5 a % 1361129467683753853853498429727072845824 + 5 * (V 67108864 5 a / 1361129467683753853853498429727072845824)) / 1361129467683753853853498429727072845824, ?_⟩
 ·have := g2 i hi
  omega
 ·rw [g1]
  generalize V 67108864 5 a = v at *
  omega
theorem pls_at (a b : NI) : ∀ n i, pls a b n i = if i < n then ua (a i) (b i) else a i
 | 0, i => by rw [if_neg (by omega)]; rfl
 | n + 1, i => by
  unfold pls
  by_cases e : i = n
  ·subst e
   rw [up_at, pls_at a b i i, if_neg (by omega), if_pos (by omega)]
  ·rw [up_ne _ _ _ e, pls_at a b n i]
   by_cases h : i < n
   ·rw [if_pos h, if_pos (by omega)]
   ·rw [if_neg h, if_neg (by omega)]
theorem pl_val' (a b : NI) (ha : ∀ i, i < 5 → 0 ≤ a i ∧ a i < 134217728) (hb : ∀ i, i < 5 → 0 ≤ b i ∧ b i < 134217728) : (∀ i, i < 5 → 0 ≤ plF a b i ∧ plF a b i < 268435456) ∧ V 67108864 5 (plF a b) = V 67108864 5 a + V 67108864 5 b := by
 have e : ∀ i, i < 5 → plF a b i = a i + b i := fun i hi => by
  have h1 := ha i hi
  have h2 := hb i hi
  unfold plF
  rw [pls_at, if_pos hi, ua_eq _ _ (by omega) (by omega)]
 refine ⟨fun i hi => ?_, ?_⟩
 ·rw [e i hi]
  have h1 := ha i hi
  have h2 := hb i hi
  omega
 ·rw [V_congr _ 5 _ (fun i => a i + b i) e, V_add]
theorem tr_val (b : Int) (m : Nat) (x y P : NI) (n i : Nat) (hm : ∀ j, j < n → i + j < m) (M C : Int) (hM : 0 ≤ M) (hC : C + M < 4611686018427387904) (hP : ∀ k, 0 ≤ P k ∧ P k ≤ C) (hxy : ∀ j, j < n → 0 ≤ x i * y j ∧ x i * y j ≤ M) :
  ∀ j, j ≤ n → (∀ k, 0 ≤ tr P x y i j k ∧ tr P x y i j k ≤ (if k < i + j then C + M else C)) ∧ V b m (tr P x y i j) = V b m P + x i * b ^ i * V b j y
 | 0, _ => by
  refine ⟨fun k => ?_, ?_⟩
  ·have := hP k
   show 0 ≤ P k ∧ P k ≤ _
   split <;> omega
  ·show V b m P = _
   simp [V]
 | j + 1, h => by
  obtain ⟨h1, h2⟩ := tr_val b m x y P n i hm M C hM hC hP hxy j (by omega)
  have hp := hxy j (by omega)
  have hq := h1 (i + j)
  rw [if_neg (by omega)] at hq
  have e : tr P x y i (j + 1) = upd (tr P x y i j) (i + j) (tr P x y i j (i + j) + x i * y j) := by
   show upd (tr P x y i j) (i + j) (ua (tr P x y i j (i + j)) (um (x i) (y j))) = _
   rw [um_eq _ _ hp.1 (by omega), ua_eq _ _ (by omega) (by omega)]
  rw [e]
  refine ⟨fun k => ?_, ?_⟩
  ·by_cases c : k = i + j
   ·subst c
    rw [up_at, if_pos (by omega)]
    omega
   ·rw [up_ne _ _ _ c]
    have h3 := h1 k
    by_cases d : k < i + j
    ·rw [if_pos d] at h3
     rw [if_pos (by omega)]
     exact h3
    ·rw [if_neg d] at h3
     rw [if_neg (by omega)]
     exact h3
  ·rw [V_upd b m _ _ _ (hm j (by omega)), h2]
   show _ = V b m P + x i * b ^ i * (V b j y + y j * b ^ j)
   rw [Int.pow_add]
   grind
theorem tp_val (b : Int) (m n : Nat) (x y : NI) (hm : ∀ i j, i < n → j < n → i + j < m) (M : Int) (hM : 0 ≤ M) (hC : (n : Int) * M < 4611686018427387904) (hxy : ∀ i j, i < n → j < n → 0 ≤ x i * y j ∧ x i * y j ≤ M) :
  ∀ i, i ≤ n → (∀ k, 0 ≤ tp n x y i k ∧ tp n x y i k ≤ (i : Int) * M) ∧ V b m (tp n x y i) = V b i x * V b n y
 | 0, _ => by
  refine ⟨fun k => by simp [tp], ?_⟩
  have : ∀ m, V b m (fun _ => 0) = 0 := fun m => by
   induction m with
   | zero => rfl
   | succ m ih => simp [V, ih]
  show V b m (fun _ => 0) = _
  rw [this]
  simp [V]
 | i + 1, h => by
  obtain ⟨h1, h2⟩ := tp_val b m n x y hm M hM hC hxy i (by omega)
  have e : ((i + 1 : Nat) : Int) * M = (i : Int) * M + M := by
   rw [Int.natCast_add, Int.add_mul]
   simp
  have hle : ((i + 1 : Nat) : Int) * M ≤ (n : Int) * M := Int.mul_le_mul_of_nonneg_right (by omega) hM
  obtain ⟨g1, g2⟩ := tr_val b m x y (tp n x y i) n i (fun j hj => hm i j (by omega) hj) M ((i : Int) * M) hM (by omega) h1 (fun j hj => hxy i j (by omega) hj) n (Nat.le_refl _)
  refine ⟨fun k => ?_, ?_⟩
  ·have h3 := g1 k
   show 0 ≤ tr (tp n x y i) x y i n k ∧ tr (tp n x y i) x y i n k ≤ _
   rw [e]
   split at h3 <;> omega
  ·show V b m (tr (tp n x y i) x y i n) = (V b i x + x i * b ^ i) * V b n y
   rw [g2, h2, Int.add_mul]
theorem tlo_at (P : NI) : ∀ n k, tlo P n k = if k < n then ua (P k) (um (P (5 + k)) 5) else P k
 | 0, k => by rw [if_neg (by omega)]; rfl
 | n + 1, k => by
  unfold tlo
  by_cases e : k = n
  ·subst e
   rw [up_at, tlo_at P k k, if_neg (by omega), if_pos (by omega)]
  ·rw [up_ne _ _ _ e, tlo_at P n k]
   by_cases h : k < n
   ·rw [if_pos h, if_pos (by omega)]
   ·rw [if_neg h, if_neg (by omega)]
theorem tm_val (x y : NI) (hx : ∀ i, i < 5 → 0 ≤ x i ∧ x i < 268435456) (hy : ∀ i, i < 5 → 0 ≤ y i ∧ y i < 67108864) : Good (tmF x y) ∧ ∃ k, V 67108864 5 x * V 67108864 5 y = V 67108864 5 (tmF x y) + k * 1361129467683753853853498429727072845819 := by
 obtain ⟨h1, h2⟩ := tp_val 67108864 9 5 x y (fun i j hi hj => by omega) 18014398509481984 (by decide) (by decide) (fun i j hi hj => by
  have a := hx i hi
  have c := hy j hj
  refine ⟨Int.mul_nonneg a.1 c.1, ?_⟩
  have := Int.mul_le_mul (show x i ≤ 268435456 by omega) (show y j ≤ 67108864 by omega) c.1 (by decide)
  exact this) 5 (Nat.le_refl _)
 unfold tmF
 generalize tp 5 x y 5 = P at *
 have hP : ∀ k, 0 ≤ P k ∧ P k ≤ 90071992547409920 := fun k => by
  have := h1 k
  omega
 have e : ∀ i, i < 5 → tlo P 4 i = P i + (if i < 4 then 5 * P (5 + i) else 0) := fun i hi => by
  have a := hP i
  have c := hP (5 + i)
  rw [tlo_at]
  by_cases d : i < 4
  ·rw [if_pos d, if_pos d, um_eq _ _ (by omega) (by omega), ua_eq _ _ (by omega) (by omega), Int.mul_comm]
  ·rw [if_neg d, if_neg d, Int.add_zero]
 obtain ⟨g, k, hk⟩ := cr_val (tlo P 4) (fun i hi => by
  have a := hP i
  have c := hP (5 + i)
  rw [e i hi]
  split <;> omega)
 refine ⟨g, k + V 67108864 4 (fun i => P (5 + i)), ?_⟩
 have f : V 67108864 5 (tlo P 4) = V 67108864 5 P + 5 * V 67108864 4 (fun i => P (5 + i)) := by
  rw [V_congr _ 5 _ (fun i => P i + (if i < 4 then 5 * P (5 + i) else 0)) e, V_add, ← V_mul]
  show V 67108864 5 P + (V 67108864 4 (fun i => if i < 4 then 5 * P (5 + i) else 0) + (if 4 < 4 then 5 * P (5 + 4) else 0) * 67108864 ^ 4) = _
  rw [V_congr _ 4 (fun i => if i < 4 then 5 * P (5 + i) else 0) (fun i => 5 * P (5 + i)) (fun i hi => if_pos hi), if_neg (by decide)]
  omega
 have s := V_split 67108864 5 4 P
 rw [pB5] at s
 rw [← h2]
 have s2 : V 67108864 9 P = V 67108864 5 P + 1361129467683753853853498429727072845824 * V 67108864 4 (fun i => P (5 + i)) := s
 rw [s2]
 generalize V 67108864 4 (fun i => P (5 + i)) = hi at *
 omega
theorem ls_val (a : NI) (g : Good a) : (∀ i, i < 5 → 0 ≤ lsF a i ∧ lsF a i < 67108864) ∧ V 67108864 5 (lsF a) = V 67108864 5 a % 1361129467683753853853498429727072845819 := by
 have n0 := g.nn
 have n1 := g.lt
 have p0 := g.part 0 (by decide)
 have e1 : mo5 a = upd a 0 (a 0 + 5) := by
  unfold mo5
  rw [ua_eq _ _ (by omega) (by omega)]
 obtain ⟨⟨h1, -⟩, -, h4, h5⟩ := s5_val (mo5 a) (fun i hi => by
  have := g.part i hi
  rw [e1]
  by_cases c : i = 0
  ·subst c
   rw [up_at]
   omega
  ·rw [up_ne _ _ _ c]
   omega)
 rw [e1, V0 _ _ _ _ (by decide)] at h1
 have e2 : lsF a = s5 (upd a 0 (a 0 + 5 * c5 (mo5 a))) := by
  unfold lsF
  rw [e1]
  generalize c5 (upd a 0 (a 0 + 5)) = q at *
  have : q ≤ 1 := by
   rw [h1]
   omega
  rw [um_eq _ _ (by rw [← e1] at *; omega) (by omega), ua_eq _ _ (by omega) (by omega), Int.mul_comm]
 rw [← e1] at h1
 generalize c5 (mo5 a) = q at *
 have q1 : q ≤ 1 := by
  rw [h1]
  omega
 have q0 : 0 ≤ q := by
  rw [h1]
  omega
 obtain ⟨⟨-, k2⟩, k3, -, -⟩ := s5_val (upd a 0 (a 0 + 5 * q)) (fun i hi => by
  have := g.part i hi
  by_cases c : i = 0
  ·subst c
   rw [up_at]
   omega
  ·rw [up_ne _ _ _ c]
   omega)
 rw [e2]
 refine ⟨k3, ?_⟩
 rw [k2, V0 _ _ _ _ (by decide)]
 generalize V 67108864 5 a = v at *
 clear k2 k3 e2
 rcases (show q = 0 ∨ q = 1 by omega) with rfl | rfl
 ·omega
 ·omega
open Go.RowKit
theorem pw_id : ∀ j, j < 17 → (67108864 : Int) ^ (8 * j / 26) * 2 ^ (8 * j % 26) = 256 ^ j := by decide +kernel
theorem pw_small : ∀ j, j < 17 → (0 : Int) < 2 ^ (8 * j % 26) ∧ (2 : Int) ^ (8 * j % 26) ≤ 33554432 ∧ ((2 ^ (8 * j % 26) : Nat) : Int) = 2 ^ (8 * j % 26) := by decide +kernel
theorem nof_val (p : NI) : ∀ j, j ≤ 17 → (∀ i, i < j → 0 ≤ p i ∧ p i < 256) → (∀ k, 0 ≤ nof p j k ∧ nof p j k < 8589934592 ∧ nof p j k * 67108864 ^ k < 256 ^ j) ∧ V 67108864 5 (nof p j) = V 256 j p
 | 0, _, _ => by
  refine ⟨fun k => ?_, by simp [nof, V]⟩
  show (0 : Int) ≤ 0 ∧ (0 : Int) < _ ∧ (0 : Int) * _ < 256 ^ 0
  simp
 | j + 1, h, hp => by
  obtain ⟨h1, h2⟩ := nof_val p j (by omega) (fun i hi => hp i (by omega))
  have hj := hp j (by omega)
  have e := pw_id j (by omega)
  obtain ⟨s0, s1, s2⟩ := pw_small j (by omega)
  obtain ⟨a0, a1, a2⟩ := h1 (8 * j / 26)
  have hk : 8 * j / 26 < 5 := by omega
  have B0 : (0 : Int) < 67108864 ^ (8 * j / 26) := Int.pow_pos (by decide)
  have e2 : nof p (j + 1) = upd (nof p j) (8 * j / 26) (uo (nof p j (8 * j / 26)) (sl (cv .u64 (p j)) (8 * j % 26))) := rfl
  generalize 8 * j / 26 = k at *
  generalize 8 * j % 26 = r at *
  generalize hS : (2 : Int) ^ r = S at *
  have lt : nof p j k < S := by
   rw [← e] at a2
   refine Int.lt_of_mul_lt_mul_left (a := 67108864 ^ k) ?_ (Int.le_of_lt B0)
   rw [Int.mul_comm]
   exact a2
  have m0 : 0 ≤ p j * S := Int.mul_nonneg hj.1 (by omega)
  have m1 : p j * S ≤ 255 * S := Int.mul_le_mul_of_nonneg_right (by omega) (by omega)
  have e3 : nof p (j + 1) = upd (nof p j) k (nof p j k + p j * S) := by
   rw [e2, cv64_eq _ hj.1 (by omega), sl_eq _ _ (by rw [hS]; exact m0) (by rw [hS]; omega), hS, ← s2]
   rw [← s2] at lt m0 m1 s1
   rw [uo_add r _ _ a0 lt hj.1 (by omega)]
  rw [e3]
  refine ⟨fun i => ?_, ?_⟩
  ·by_cases c : i = k
   ·subst c
    rw [up_at]
    refine ⟨by omega, by omega, ?_⟩
    have l : nof p j i + p j * S < 256 * S := by omega
    have l2 := Int.mul_lt_mul_of_pos_right l B0
    rw [Int.pow_succ, ← e]
    have l3 : 256 * S * 67108864 ^ i = 67108864 ^ i * S * 256 := by grind
    rw [← l3]
    exact l2
   ·rw [up_ne _ _ _ c]
    obtain ⟨b0, b1, b2⟩ := h1 i
    refine ⟨b0, b1, ?_⟩
    rw [Int.pow_succ]
    have : (0 : Int) < 256 ^ j := Int.pow_pos (by decide)
    omega
  ·rw [V_upd _ 5 _ _ _ hk, h2]
   show _ = V 256 j p + p j * 256 ^ j
   rw [← e]
   grind
theorem p256 : (256 : Int) ^ 16 = 340282366920938463463374607431768211456 := by decide
theorem noF_val (p : NI) (hp : ∀ i, i < 17 → 0 ≤ p i ∧ p i < 256) (h16 : p 16 ≤ 1) : (∀ i, i < 5 → 0 ≤ noF p i ∧ noF p i < 67108864) ∧ V 67108864 5 (noF p) = V 256 17 p := by
 obtain ⟨h1, h2⟩ := nof_val p 17 (Nat.le_refl _) hp
 obtain ⟨⟨-, k2⟩, k3, -, -⟩ := s5_val (nof p 17) (fun i _ => by have := h1 i; omega)
 refine ⟨k3, ?_⟩
 have e : V 67108864 5 (noF p) = V 67108864 5 (nof p 17) % 1361129467683753853853498429727072845824 := k2
 rw [e, h2]
 have n0 := V_nn 256 (by decide) 17 p (fun i hi => (hp i hi).1)
 have n1 := V_lt 256 (by decide) 16 p (fun i hi => (hp i (by omega)).2)
 rw [p256] at n1
 have s : V 256 17 p = V 256 16 p + p 16 * 256 ^ 16 := rfl
 rw [p256] at s
 exact Int.emod_eq_of_lt n0 (by omega)
theorem V_pd (b : Int) (f : NI) (n : Nat) : ∀ m, n ≤ m → V b m (pd f n) = V b n f
 | 0, h => by
  obtain rfl : n = 0 := by omega
  rfl
 | m + 1, h => by
  by_cases e : n = m + 1
  ·subst e
   exact V_congr b _ _ _ fun i hi => if_pos hi
  ·show V b m (pd f n) + pd f n m * b ^ m = _
   rw [V_pd b f n m (by omega), show pd f n m = 0 from if_neg (by omega)]
   omega
theorem pd_nn (f : NI) (n : Nat) (hf : ∀ i, 0 ≤ f i ∧ f i < 256) (i : Nat) : 0 ≤ pd f n i ∧ pd f n i < 256 := by
 unfold pd
 split
 ·exact hf i
 ·decide
def qN (f : NI) (n : Nat) : Int := V 256 n f + 256 ^ n
theorem mk_val (f : NI) (n : Nat) (hn : n ≤ 16) (hf : ∀ i, 0 ≤ f i ∧ f i < 256) : (∀ i, i < 5 → 0 ≤ noF (mk f n) i ∧ noF (mk f n) i < 67108864) ∧ V 67108864 5 (noF (mk f n)) = qN f n := by
 have hb : ∀ i, 0 ≤ mk f n i ∧ mk f n i < 256 := fun i => by
  unfold mk
  by_cases c : i = n
  ·rw [c, up_at]
   decide
  ·rw [up_ne _ _ _ c]
   exact pd_nn f n hf i
 have h16 : mk f n 16 ≤ 1 := by
  unfold mk
  by_cases c : 16 = n
  ·rw [c, up_at]
   decide
  ·rw [up_ne _ _ _ c, show pd f n 16 = 0 from if_neg (by omega)]
   decide
 obtain ⟨h1, h2⟩ := noF_val (mk f n) (fun i _ => hb i) h16
 refine ⟨h1, ?_⟩
 rw [h2]
 unfold mk qN
 rw [V_upd _ 17 _ _ _ (by omega), V_pd _ _ _ 17 (by omega), show pd f n n = 0 from if_neg (by omega)]
 omega
def rB (b : NI) (i : Nat) : Int := if i = 3 ∨ i = 7 ∨ i = 11 ∨ i = 15 then b i % 16 else if i = 4 ∨ i = 8 ∨ i = 12 then b i - b i % 4 else b i
theorem nb8_15 (x : Int) (h0 : 0 ≤ x) (h1 : x < 256) : nb8 x 15 = x % 16 := by
 have h : ∀ n : Nat, n < 256 → nb8 (n : Int) 15 = (n : Int) % 16 := by decide +kernel
 have := h x.toNat (by omega)
 rwa [show ((x.toNat : Nat) : Int) = x by omega] at this
theorem db8_3 (x : Int) (h0 : 0 ≤ x) (h1 : x < 256) : db8 x 3 = x - x % 4 := by
 have h : ∀ n : Nat, n < 256 → db8 (n : Int) 3 = (n : Int) - (n : Int) % 4 := by decide +kernel
 have := h x.toNat (by omega)
 rwa [show ((x.toNat : Nat) : Int) = x by omega] at this
theorem rB_nn (b : NI) (hb : ∀ i, 0 ≤ b i ∧ b i < 256) (i : Nat) : 0 ≤ rB b i ∧ rB b i < 256 := by
 have := hb i
 unfold rB
 split
 ·omega
 ·split <;> omega
theorem fc_at (b : NI) (hb : ∀ i, 0 ≤ b i ∧ b i < 256) (i : Nat) (hi : i < 17) : fc2 (fc1 (pd b 16)) i = pd (rB b) 16 i := by
 have e : ∀ k, k < 16 → pd b 16 k = b k := fun k hk => if_pos hk
 have x15 : ∀ k, k < 16 → nb8 (pd b 16 k) 15 = b k % 16 := fun k hk => by rw [e k hk, nb8_15 _ (hb k).1 (hb k).2]
 have x3 : ∀ k, k < 16 → db8 (pd b 16 k) 3 = b k - b k % 4 := fun k hk => by rw [e k hk, db8_3 _ (hb k).1 (hb k).2]
 have f4 : fc1 (pd b 16) 4 = pd b 16 4 := rfl
 have f8 : fc1 (pd b 16) 8 = pd b 16 8 := rfl
 have f12 : fc1 (pd b 16) 12 = pd b 16 12 := rfl
 have hc : i = 0 ∨ i = 1 ∨ i = 2 ∨ i = 3 ∨ i = 4 ∨ i = 5 ∨ i = 6 ∨ i = 7 ∨ i = 8 ∨ i = 9 ∨ i = 10 ∨ i = 11 ∨ i = 12 ∨ i = 13 ∨ i = 14 ∨ i = 15 ∨ i = 16 := by omega
 rcases hc with rfl | rfl | rfl | rfl | rfl | rfl | rfl | rfl | rfl | rfl | rfl | rfl | rfl | rfl | rfl | rfl | rfl
 ·rfl
 ·rfl
 ·rfl
 ·exact x15 3 (by decide)
 ·exact (congrArg (fun z => db8 z 3) f4).trans (x3 4 (by decide))
 ·rfl
 ·rfl
 ·exact x15 7 (by decide)
 ·exact (congrArg (fun z => db8 z 3) f8).trans (x3 8 (by decide))
 ·rfl
 ·rfl
 ·exact x15 11 (by decide)
 ·exact (congrArg (fun z => db8 z 3) f12).trans (x3 12 (by decide))
 ·rfl
 ·rfl
 ·exact x15 15 (by decide)
 ·rfl
theorem fc_val (b : NI) (hb : ∀ i, 0 ≤ b i ∧ b i < 256) : (∀ i, i < 5 → 0 ≤ noF (fc2 (fc1 (pd b 16))) i ∧ noF (fc2 (fc1 (pd b 16))) i < 67108864) ∧ V 67108864 5 (noF (fc2 (fc1 (pd b 16)))) = V 256 16 (rB b) := by
 have e := fc_at b hb
 obtain ⟨h1, h2⟩ := noF_val (fc2 (fc1 (pd b 16))) (fun i hi => by rw [e i hi]; exact pd_nn _ _ (rB_nn b hb) i) (by rw [e 16 (by decide)]; exact (by decide : (0 : Int) ≤ 1))
 refine ⟨h1, ?_⟩
 rw [h2, V_congr 256 17 _ _ e, V_pd _ _ _ 17 (by decide)]
theorem plain_val (b : NI) (hb : ∀ i, 0 ≤ b i ∧ b i < 256) : (∀ i, i < 5 → 0 ≤ noF (pd b 16) i ∧ noF (pd b 16) i < 67108864) ∧ V 67108864 5 (noF (pd b 16)) = V 256 16 b := by
 obtain ⟨h1, h2⟩ := noF_val (pd b 16) (fun i _ => pd_nn b 16 hb i) (by exact (by decide : (0 : Int) ≤ 1))
 refine ⟨h1, ?_⟩
 rw [h2, V_pd _ _ _ 17 (by decide)]
def dgt (X : Int) (i : Nat) : Int := X / 256 ^ i % 256
theorem dq (i : Nat) (hi : i < 16) : ∃ Q : Int, (2 : Int) ^ (8 * i % 26) * (256 * Q) = 67108864 ^ 2 := ⟨2 ^ (44 - 8 * i % 26), (by decide +kernel : ∀ i, i < 16 → (2 : Int) ^ (8 * i % 26) * (256 * 2 ^ (44 - 8 * i % 26)) = 67108864 ^ 2) i hi⟩
theorem dm (i : Nat) (hi : i < 16) : ∃ Q : Int, (256 : Int) ^ i * (256 * Q) = 1361129467683753853853498429727072845824 := ⟨2 ^ (122 - 8 * i), (by decide +kernel : ∀ i, i < 16 → (256 : Int) ^ i * (256 * 2 ^ (122 - 8 * i)) = 1361129467683753853853498429727072845824) i hi⟩
theorem dgt_add (X Y D Q : Int) (hD : 0 < D) : (X + D * (256 * Q) * Y) / D % 256 = X / D % 256 := by
 rw [Int.mul_assoc, Int.add_mul_ediv_left _ _ (by omega), Int.mul_assoc, Int.add_mul_emod_self_left]
theorem dgt_mod (X : Int) (i : Nat) (hi : i < 16) : dgt (X % 1361129467683753853853498429727072845824) i = dgt X i := by
 obtain ⟨Q, hQ⟩ := dm i hi
 have e := Int.emod_add_mul_ediv X 1361129467683753853853498429727072845824
 have h := dgt_add (X % 1361129467683753853853498429727072845824) (X / 1361129467683753853853498429727072845824) (256 ^ i) Q (Int.pow_pos (by decide))
 rw [hQ, e] at h
 exact h.symm
theorem tb_val (a : NI) (ha : ∀ i, i < 5 → 0 ≤ a i ∧ a i < 67108864) (i : Nat) (hi : i < 16) : tb a i = dgt (V 67108864 5 a) i := by
 have h6 : ∀ k, 0 ≤ p6 a k ∧ p6 a k < 67108864 := fun k => by
  unfold p6
  split
  ·rename_i h
   exact ha k h
  ·decide
 have e7 : V 67108864 5 a = V 67108864 7 (p6 a) := by
  have : V 67108864 7 (p6 a) = V 67108864 5 (p6 a) + p6 a 5 * 67108864 ^ 5 + p6 a 6 * 67108864 ^ 6 := rfl
  rw [this, show p6 a 5 = 0 from rfl, show p6 a 6 = 0 from rfl, V_congr _ 5 a (p6 a) (fun i hi => (if_pos hi).symm)]
  omega
 have hk : 8 * i / 26 ≤ 4 := by omega
 have ep := pw_id i (by omega)
 obtain ⟨s0, s1, s2⟩ := pw_small i (by omega)
 obtain ⟨Q, hQ⟩ := dq i hi
 unfold tb dgt
 rw [e7, ← ep]
 generalize 8 * i / 26 = k at *
 generalize 8 * i % 26 = r at *
 have x0 := h6 k
 have x1 := h6 (k + 1)
 have t1 : sl (p6 a (k + 1)) 26 = p6 a (k + 1) * 67108864 := sl_eq _ 26 (by omega) (by omega)
 have t2 : uo (p6 a k) (p6 a (k + 1) * 67108864) = p6 a k + p6 a (k + 1) * 67108864 := uo_add 26 _ _ x0.1 x0.2 x1.1 (by omega)
 rw [cv8_eq, t1, t2, sr_eq]
 have sp := V_split 67108864 k (2 + (5 - k)) (p6 a)
 rw [show k + (2 + (5 - k)) = 7 by omega] at sp
 have sp2 := V_split 67108864 2 (5 - k) (fun i => p6 a (k + i))
 have sp3 : V 67108864 2 (fun i => p6 a (k + i)) = p6 a k + p6 a (k + 1) * 67108864 := by
  show (0 + p6 a (k + 0) * 67108864 ^ 0) + p6 a (k + 1) * 67108864 ^ 1 = _
  simp
 rw [sp3] at sp2
 rw [sp2] at sp
 have l0 := V_nn 67108864 (by decide) k (p6 a) (fun i _ => (h6 i).1)
 have l1 := V_lt 67108864 (by decide) k (p6 a) (fun i _ => (h6 i).2)
 have B0 : (0 : Int) < 67108864 ^ k := Int.pow_pos (by decide)
 rw [sp, ← Int.ediv_ediv_of_nonneg (Int.le_of_lt B0), Int.add_mul_ediv_left _ _ (by omega), Int.ediv_eq_zero_of_lt l0 l1, Int.zero_add, ← hQ, dgt_add _ _ _ _ s0]
theorem tx_val (a : NI) (ha : ∀ i, i < 5 → 0 ≤ a i ∧ a i < 4611686018427387904) : txS a = bs ((List.range 16).map (dgt (V 67108864 5 a))) := by
 obtain ⟨⟨-, k2⟩, k3, -, -⟩ := s5_val a ha
 unfold txS
 congr 1
 refine List.map_congr_left fun i hi => ?_
 have hi' := List.mem_range.1 hi
 rw [tb_val _ k3 i hi', k2, dgt_mod _ i hi']
def hN (r : Int) (q : NI) : Nat → Int
 | 0 => 0
 | j + 1 => ((hN r q j + q j) * r) % 1361129467683753853853498429727072845819
def qS (s : Yb) (j : Nat) : Int := qN (fun i => bt s (16 * j + i)) (min 16 (s.size - 16 * j))
def tagZ (key s : Yb) : Int := hN (V 256 16 (rB (bt key))) (qS s) ((s.size + 15) / 16) + V 256 16 (fun i => bt key (16 + i))
def tagS (key s : Yb) : ByteArray := bs ((List.range 16).map (dgt (tagZ key s)))
theorem hN_step {r : Int} {q : NI} {j : Nat} {A B k : Int} (h : A % 1361129467683753853853498429727072845819 = hN r q j) (e : (A + q j) * r = B + k * 1361129467683753853853498429727072845819) : B % 1361129467683753853853498429727072845819 = hN r q (j + 1) := by
 have h1 : B % 1361129467683753853853498429727072845819 = ((A + q j) * r) % 1361129467683753853853498429727072845819 := by
  rw [e, Int.add_mul_emod_self_right]
 rw [h1]
 show _ = ((hN r q j + q j) * r) % 1361129467683753853853498429727072845819
 have e2 : (A + q j) * r = (A % 1361129467683753853853498429727072845819 + q j) * r + 1361129467683753853853498429727072845819 * (A / 1361129467683753853853498429727072845819 * r) := by
  have e3 := Int.emod_add_mul_ediv A 1361129467683753853853498429727072845819
  generalize A % 1361129467683753853853498429727072845819 = x at *
  generalize A / 1361129467683753853853498429727072845819 = y at *
  rw [← e3]
  grind
 rw [← h, e2, Int.add_mul_emod_self_left]
theorem good0 : Good (fun _ => 0) := ⟨fun _ _ => by decide, by decide⟩
theorem sm_val (s : Yb) (r : NI) (hr : ∀ i, i < 5 → 0 ≤ r i ∧ r i < 67108864) : ∀ j, Good (sm s r j) ∧ V 67108864 5 (sm s r j) % 1361129467683753853853498429727072845819 = hN (V 67108864 5 r) (qS s) j
 | 0 => ⟨good0, (by decide : V 67108864 5 (fun _ => 0) % 1361129467683753853853498429727072845819 = 0)⟩
 | j + 1 => by
  obtain ⟨g, h⟩ := sm_val s r hr j
  obtain ⟨m1, m2⟩ := mk_val (fun i => bt s (16 * j + i)) (min 16 (s.size - 16 * j)) (Nat.min_le_left _ _) (fun i => bt_nn s _)
  obtain ⟨p1, p2⟩ := pl_val' (sm s r j) (noF (mk (fun i => bt s (16 * j + i)) (min 16 (s.size - 16 * j)))) (fun i hi => by have := g.part i hi; omega) (fun i hi => by have := m1 i hi; omega)
  obtain ⟨g2, k, hk⟩ := tm_val _ r p1 hr
  refine ⟨g2, hN_step h (k := k) ?_⟩
  rw [p2, m2] at hk
  exact hk
theorem bt_sub (s : Yb) (p q j : Nat) (hj : j < q - p) (hq : q ≤ s.size) : bt (s.extract p q) j = bt s (p + j) := by
 unfold bt
 rw [ByteArray.data_extract, Array.getElem?_extract, if_pos (by show j < min q s.data.size - p; have : s.size = s.data.size := rfl; omega)]
theorem rB_congr (b c : NI) (h : ∀ i, i < 16 → b i = c i) (i : Nat) (hi : i < 16) : rB b i = rB c i := by
 unfold rB
 rw [h i hi]
theorem tg_val (key s : Yb) (hk : key.size = 32) : tgS key s = tagS key s := by
 obtain ⟨r1, r2⟩ := fc_val (bt (key.extract 0 16)) (bt_nn _)
 obtain ⟨l1, l2⟩ := plain_val (bt (key.extract 16 key.size)) (bt_nn _)
 have er : V 67108864 5 (rF key) = V 256 16 (rB (bt key)) := by
  refine r2.trans (V_congr _ _ _ _ (rB_congr _ _ fun i hi => ?_))
  rw [bt_sub key 0 16 i (by omega) (by omega), Nat.zero_add]
 have el : V 67108864 5 (lF key) = V 256 16 (fun i => bt key (16 + i)) := by
  refine l2.trans (V_congr _ _ _ _ fun i hi => ?_)
  rw [bt_sub key 16 key.size i (by omega) (by omega)]
 obtain ⟨g, h⟩ := sm_val s (rF key) r1 ((s.size + 15) / 16)
 obtain ⟨v1, v2⟩ := ls_val _ g
 obtain ⟨p1, p2⟩ := pl_val' (lsF (sm s (rF key) ((s.size + 15) / 16))) (lF key) (fun i hi => by have := v1 i hi; omega) (fun i hi => by have : 0 ≤ lF key i ∧ lF key i < 67108864 := l1 i hi; omega)
 unfold tgS tagS tagZ
 rw [tx_val _ (fun i hi => by have := p1 i hi; omega), p2, v2, h, er, el]
end Go.Proofs.YtiahdbibeleakaaGreatDoor.Pol
