/- Part 8 of the walks and facts. -/
import Derived.Test.YtffimigpbcilbaaGreatDoorCpDef
import Derived.Test.YtffimigpbcilbaaGreatDoorCp4
import Derived.Shelf.Abstract
set_option maxHeartbeats 16000000
set_option maxRecDepth 100000
namespace Go.Proofs.YtffimigpbcilbaaGreatDoor.Pol
open Go.RowKit
theorem inz187 : (Tryz.prog.info? 187).map (·.size) = some 5 := by kernel_rfl
theorem quo26 (j : Nat) (hj : j < 1000000) : IntKind.wrap .i64 ((j : Int).tdiv 26) = ((j / 26 : Nat) : Int) := by
 rw [Int.tdiv_eq_ediv_of_nonneg (by omega), wrap64 (by omega) (by omega)]
 omega
theorem rem26 (n : Nat) : Int.tmod (n : Int) 26 = ((n % 26 : Nat) : Int) := by
 rw [Int.tmod_eq_emod_of_nonneg (by omega)]
 omega
def ob8 (x y : Int) : Int := IntKind.wrap .u8 (BitVec.ofInt 8 x ||| BitVec.ofInt 8 y).toNat
def nb8 (x y : Int) : Int := IntKind.wrap .u8 (BitVec.ofInt 8 x &&& BitVec.ofInt 8 y).toNat
def db8 (x y : Int) : Int := IntKind.wrap .u8 (BitVec.ofInt 8 x &&& ~~~ BitVec.ofInt 8 y).toNat
theorem run_shlU {P : Program} {a : Act} {o : Oper} (t rt : TypeId) (x y : Operand) (ho : o.op = .binOp .shl t x y rt) (k : Int) (ky : IntKind) (m : Nat) (hx : a.eval x = .int .u64 k) (hy : a.eval y = .int ky (m : Int)) (_hm : m ≤ 64) (w : World) :
  (execOp a.eval o).run P w = .ok (.value (.int .u64 (sl k m))) w := by
 unfold execOp sl
 simp [ho, hx, hy, eqGuard, binOp]
theorem run_shrU {P : Program} {a : Act} {o : Oper} (t rt : TypeId) (x y : Operand) (ho : o.op = .binOp .shr t x y rt) (k : Int) (ky : IntKind) (m : Nat) (hx : a.eval x = .int .u64 k) (hy : a.eval y = .int ky (m : Int)) (_hm : m ≤ 64) (w : World) :
  (execOp a.eval o).run P w = .ok (.value (.int .u64 (sr k m))) w := by
 have hp : (0 : Int) ≤ 2 ^ m := Int.le_of_lt (Int.pow_pos (by decide))
 unfold execOp sr
 rw [Int.fdiv_eq_ediv_of_nonneg k hp]
 simp [ho, hx, hy, eqGuard, binOp]
theorem run_slL {P : Program} {a : Act} {o : Oper} (t e : TypeId) (hu : P.underlying t = some (.slice e)) (hs : (P.info? e).map (·.size) = some 1) (x lo : Operand) (ho : o.op = .slice t x (some lo) none none) (g off len cap : Nat) (hx : a.eval x = .slice (some ⟨g, off, none⟩) len cap) (k : IntKind) (i : Nat) (hi : a.eval lo = .int k (i : Int)) (hlt : i < cap) (hle : i ≤ len) (w : World) :
  (execOp a.eval o).run P w = .ok (.value (.slice (some ⟨g, off + i, none⟩) (len - i) (cap - i))) w := by
 cases hq : P.info? e with
 | none => simp [hq] at hs
 | some u =>
  have hsz : u.size = 1 := by simpa [hq] using hs
  have hne : ¬ cap = i := by omega
  unfold execOp
  simp [ho, hx, hi, Instr.sliceAt, Instr.slice, run_underlying hu, Instr.sliceBounds, run_sliceBound, sizeOf, typeInfo, hq, hsz, add_at, hne, hle]
theorem run_slM {P : Program} {a : Act} {o : Oper} (t e : TypeId) (hu : P.underlying t = some (.slice e)) (hs : (P.info? e).map (·.size) = some 1) (x lo hi mx : Operand) (ho : o.op = .slice t x (some lo) (some hi) (some mx)) (g off len cap : Nat) (hx : a.eval x = .slice (some ⟨g, off, none⟩) len cap) (k k' k2 : IntKind) (i j : Nat) (hi1 : a.eval lo = .int k (i : Int)) (hi2 : a.eval hi = .int k' (j : Int)) (hi3 : a.eval mx = .int k2 (j : Int)) (hlt : i < j) (hle : j ≤ cap) (w : World) :
  (execOp a.eval o).run P w = .ok (.value (.slice (some ⟨g, off + i, none⟩) (j - i) (j - i))) w := by
 cases hq : P.info? e with
 | none => simp [hq] at hs
 | some u =>
  have hsz : u.size = 1 := by simpa [hq] using hs
  have hne : ¬ j = i := by omega
  have hle2 : i ≤ j := by omega
  unfold execOp
  simp [ho, hx, hi1, hi2, hi3, Instr.sliceAt, Instr.slice, run_underlying hu, Instr.sliceBounds, run_sliceBound, sizeOf, typeInfo, hq, hsz, add_at, hne, hle, hle2]
section
variable {P : Program} {ops : Array Oper} {rest : List Oper} {o : Oper} {a : Act} {w : World} {c : Ctx} {L : List Blk} {Q : Exit → Act → World → Prop}
theorem pl_copyC (M : Mem c L w) (hw : Region.wanted o (yielded ops a.tmps) = true) (d : Option Tmp) (hd : o.dst = d) (dT sT ty elem : TypeId) (hu : P.underlying dT = some (.slice elem)) (hz : (P.info? elem).map (·.size) = some 1) (i g n T : Nat) (F : NV) (hi : L[i]? = some ⟨g, .cells (av n F) T⟩) (g2 : Nat) (F2 : NV) (od dl dc os sl sc k : Nat) (hk : k = Nat.min sl dl) (hd1 : od + k ≤ n) (hsrc : ∀ w, Mem c L w → ∀ j, j < k → w.cell? ⟨g2, os + j, none⟩ = some (F2 j)) (h1 : ∀ j, (F2 j).oneCell' = true) (Fn : NV) (hfn : ∀ j, j < n → (if od ≤ j ∧ j < od + k then F2 (j - od) else F j) = Fn j)
  (hrun : ∀ w, (execOp a.eval o).run P w = (do pure (Next.value (← Builtin.copy_ #[dT, sT] ty #[.slice (some ⟨g, od, none⟩) dl dc, .slice (some ⟨g2, os, none⟩) sl sc]))).run P w)
  (h : ∀ w', Mem c (L.set i ⟨g, .cells (av n Fn) T⟩) w' → PL P ops Q rest (a.put d (goInt k)) w') : PL P ops Q (o :: rest) a w := by
 have R := M.get i hi
 have hl : (av k F2).toList.length = k := by simp [av_size]
 have hr := run_copy_cells (P := P) w dT sT ty elem g od dl dc ⟨g2, os, none⟩ sl sc (av k F2).toList hu hz (by rw [hl, hk])
  (fun j v hv => by
   obtain ⟨hj, rfl⟩ := av_toList_get _ _ _ _ hv
   rw [add_at]
   exact hsrc w M j hj)
  (fun j hj => by rw [hl] at hj; rw [cell_av R (by omega)]; rfl) (fun j hj => free_av R _)
  (fun v hv => by
   obtain ⟨j, hj⟩ := List.mem_iff_getElem?.1 hv
   obtain ⟨hj', rfl⟩ := av_toList_get _ _ _ _ hj
   exact h1 _)
 rw [hl] at hr
 refine pl_to hw d hd (goInt k) _ ?_ (h _ (M.put i ⟨g, _⟩ hi _ (grown_setCells g _ _ _) (by rw [heap_setCells g T _ w _ od R, setAll_av n F F2 Fn od k hd1 hfn])))
 rw [hrun]
 simp only [Sem.run_bind, hr, Result.andThen_ok, Sem.run_pure]
end
open Go.RowKit
def cy (sh : Nat) (a : NI) : Nat → Int
 | 0 => 0
 | j + 1 => sr (ua (a j) (cy sh a j)) sh
def st (m : Int) (sh : Nat) (a : NI) : Nat → (Nat → Int)
 | 0 => a
 | j + 1 => upd (st m sh a j) j (un (ua (a j) (cy sh a j)) m)
def s5 (a : NI) : Nat → Int := st 67108863 26 a 5
def c5 (a : NI) : Int := cy 26 a 5
theorem c_settled (x : NI) (w : World) (hL : Laid w)  : Cs 167 #[.agg (av 5 (w64 x))] w (.tuple #[.agg (av 5 (w64 (s5 x))), .int .u64 (c5 x)]) := by
 go_enter Tryz.func167, Tryz.ntmps167
 have M := Mem.start hL
 refine sR <| pN M 1 (.cells (av 5 (w64 x)) 187) fun g1 u1 M => pN M 2 (.cells (av 5 (w64 (fun _ => 0))) 187) fun g2 u2 M => rV 1 <| nT <| sq <| wp_seq <| sR <| pA M 7 0 5 (w64 x) <| rV 1 <| nT <| wp_block ?_
 refine au_loop (fun j a w' => ∃ v1 : NV, a = (fm ([.agg (av 5 (w64 x)), pJ g1, pJ g2, .int .u64 0, .int .u64 (cy 26 x j)] ++ vr v1 5 2 ++ [.agg (av 5 (w64 x)), .int .i64 (j : Int)] ++ vr v1 9 15)) ∧ Mem ⟨w, []⟩ [⟨g1, .cells (av 5 (w64 (st 67108863 26 x j))) 187⟩, ⟨g2, .cells (av 5 (w64 (fun _ => 0))) 187⟩] w') 5 (exS M) ?_ ?_
 ·intro j a u0 hj hI
  obtain ⟨v1, rfl, M⟩ := hI
  refine sR <| ZT 9 ((j : Int) < 5) <| nT <| wp_seq <| cT <| wp_skip <| au_then <| wp_seq <| wp_block <| sR <| rV 1 <| pH 11 (.int .u64 (x (j))) (run_ixA 187 5 86 Tryz.underlying187 inz86 (fun _ => by kernel_rfl) _ _ rfl (w64 x) (by kernel_rfl) .i64 (j) (by kernel_rfl) (by omega) rfl) <| rV 2 <| nT <| sq <| rg_lit ?_
  refine rV 5 <| ZX 20 .i64 g1 (j) 5 <| ZP64 M 0 j (un (ua (x (j)) (cy 26 x j)) 67108863) fun u3 M => rV 1 <| pl_nil <| au_block <| au_then <| rg_lit <| ZI 21 ((j : Int) + 1) ((j + 1 : Nat) : Int) <| rV 1 <| nT ?_
  exact exS M
 ·intro a u0 hI
  obtain ⟨v1, rfl, M⟩ := hI
  refine sR <| ZF 9 (5 < 5) <| nT <| wp_seq <| cF <| wp_exit <| au_then_exit <| au_then_exit <| au_block_exit <| au_then <| sR <| pA M 22 0 5 (w64 (st 67108863 26 x 5)) <| rV 1 <| ZG M 1 5 (w64 (st 67108863 26 x 5)) fun u4 M => rV 1 <| nT ?_
  refine wp_ret ?_
  exact bct Tryz.results167 M 1 5 (w64 (st 67108863 26 x 5)) (.int .u64 (cy 26 x 5)) ⟨rfl, below_grown M.old⟩
def cr1 (a : NI) : Nat → Int := upd (s5 a) 0 (ua (s5 a 0) (um (c5 a) 5))
def crr (a : NI) : Nat → (Nat → Int)
 | 0 => a
 | j + 1 => cr1 (crr a j)
def crF (a : NI) : Nat → Int := cr1 (cr1 a)
theorem c_carried (x : NI) (w : World) (hL : Laid w)  : Cs 166 #[.agg (av 5 (w64 x))] w (.agg (av 5 (w64 (crF x)))) := by
 go_enter Tryz.func166, Tryz.ntmps166
 have M := Mem.start hL
 refine sR <| pN M 1 (.cells (av 5 (w64 x)) 187) fun g1 u1 M => pN M 2 (.cells (av 5 (w64 (fun _ => 0))) 187) fun g2 u2 M => nT <| wp_seq <| sq <| wp_block ?_
 refine au_loop (fun j a w' => ∃ v1 : NV, a = (fm ([.agg (av 5 (w64 x)), pJ g1, pJ g2] ++ vr v1 3 2 ++ [.int .i64 (j : Int)] ++ vr v1 6 15)) ∧ Mem ⟨w, []⟩ [⟨g1, .cells (av 5 (w64 (crr x j))) 187⟩, ⟨g2, .cells (av 5 (w64 (fun _ => 0))) 187⟩] w') 2 (exS M) ?_ ?_
 ·intro j a u0 hj hI
  obtain ⟨v1, rfl, M⟩ := hI
  refine sR <| ZT 6 ((j : Int) < 2) <| nT <| wp_seq <| cT <| wp_skip <| au_then <| wp_seq <| wp_block <| sR <| pA M 8 0 5 (w64 (crr x j)) <| ZC M 9 (fun w M => c_settled (crr x j) w M.laid) fun u3 M => rV 3 <| pN M 3 (.cells (av 5 (w64 (fun _ => 0))) 187) fun g3 u4 M => ZG M 2 5 (w64 (s5 (crr x j))) fun u5 M => rV 1 ?_
  refine nT <| sR <| rV 1 <| ZE M 13 2 0 <| rV 4 <| ZP64 M 2 0 (ua ((s5 (crr x j)) 0) (um (c5 (crr x j)) 5)) fun u6 M => nT <| rg_lit ?_
  refine pA M 18 2 5 (w64 (upd (s5 (crr x j)) 0 (ua ((s5 (crr x j)) 0) (um (c5 (crr x j)) 5)))) <| ZG M 0 5 (w64 (upd (s5 (crr x j)) 0 (ua ((s5 (crr x j)) 0) (um (c5 (crr x j)) 5)))) fun u7 M => pl_nil <| au_block <| au_then <| rg_lit <| ZI 19 ((j : Int) + 1) ((j + 1 : Nat) : Int) <| rV 1 ?_
  refine nT ?_
  exact exS (M.drop (.cons_cons _ (.cons_cons _ (.cons _ (.slnil)))))
 ·intro a u0 hI
  obtain ⟨v1, rfl, M⟩ := hI
  refine sR <| ZF 6 (2 < 2) <| nT <| wp_seq <| cF <| wp_exit <| au_then_exit <| au_then_exit <| au_block_exit <| au_then <| sR <| pA M 20 0 5 (w64 (crr x 2)) <| ZG M 1 5 (w64 (crr x 2)) fun u8 M => nT <| wp_ret ?_
  exact bc Tryz.results166 M 1 5 (w64 (crr x 2)) ⟨rfl, below_grown M.old⟩
def pls (a b : NI) : Nat → (Nat → Int)
 | 0 => a
 | j + 1 => upd (pls a b j) j (ua (pls a b j j) (b j))
def plF (a b : NI) : Nat → Int := pls a b 5
theorem c_plus (x y : NI) (w : World) (hL : Laid w)  : Cs 137 #[.agg (av 5 (w64 x)), .agg (av 5 (w64 y))] w (.agg (av 5 (w64 (plF x y)))) := by
 go_enter Tryz.func137, Tryz.ntmps137
 have M := Mem.start hL
 refine sR <| pN M 2 (.cells (av 5 (w64 x)) 187) fun g1 u1 M => pN M 3 (.cells (av 5 (w64 y)) 187) fun g2 u2 M => pN M 4 (.cells (av 5 (w64 (fun _ => 0))) 187) fun g3 u3 M => nT <| wp_seq <| sq <| wp_block ?_
 refine au_loop (fun j a w' => ∃ v1 : NV, a = (fm ([.agg (av 5 (w64 x)), .agg (av 5 (w64 y)), pJ g1, pJ g2, pJ g3, v1 5, .int .i64 (j : Int)] ++ vr v1 7 12)) ∧ Mem ⟨w, []⟩ [⟨g1, .cells (av 5 (w64 (pls x y j))) 187⟩, ⟨g2, .cells (av 5 (w64 y)) 187⟩, ⟨g3, .cells (av 5 (w64 (fun _ => 0))) 187⟩] w') 5 (exS M) ?_ ?_
 ·intro j a u0 hj hI
  obtain ⟨v1, rfl, M⟩ := hI
  refine sR <| ZT 7 ((j : Int) < 5) <| nT <| wp_seq <| cT <| wp_skip <| au_then <| wp_seq <| wp_block <| sq <| rg_tail M 8 (by kernel_rfl) (by kernel_rfl) ?_
  simp only [List.take_succ_cons, List.take_zero]
  refine kR 1 <| eX 10 .i64 g1 (j) 5 <| eE M 11 0 j <| kR 1 <| eX 13 .i64 g2 (j) 5 <| eE M 14 1 j <| kR 1 <| eX 16 .i64 g1 (j) 5 <| kl_nil fun u4 M => ZP64 M 0 j (ua ((pls x y j) j) (y j)) fun u5 M => pl_nil <| au_block <| au_then <| rg_lit <| ZI 17 ((j : Int) + 1) ((j + 1 : Nat) : Int) <| rV 1 ?_
  refine nT ?_
  exact exS M
 ·intro a u0 hI
  obtain ⟨v1, rfl, M⟩ := hI
  refine sR <| ZF 7 (5 < 5) <| nT <| wp_seq <| cF <| wp_exit <| au_then_exit <| au_then_exit <| au_block_exit <| au_then <| sR <| pA M 18 0 5 (w64 (pls x y 5)) <| ZG M 2 5 (w64 (pls x y 5)) fun u6 M => nT <| wp_ret ?_
  exact bc Tryz.results137 M 2 5 (w64 (pls x y 5)) ⟨rfl, below_grown M.old⟩
def mo5 (a : NI) : Nat → Int := upd a 0 (ua (a 0) 5)
def lsF (a : NI) : Nat → Int := s5 (upd a 0 (ua (a 0) (um (c5 (mo5 a)) 5)))
theorem c_least (x : NI) (w : World) (hL : Laid w)  : Cs 140 #[.agg (av 5 (w64 x))] w (.agg (av 5 (w64 (lsF x)))) := by
 go_enter Tryz.func140, Tryz.ntmps140
 have M := Mem.start hL
 refine sR <| pN M 1 (.cells (av 5 (w64 x)) 187) fun g1 u1 M => pN M 2 (.cells (av 5 (w64 (fun _ => 0))) 187) fun g2 u2 M => nT <| sR <| pA M 6 0 5 (w64 x) <| pN M 3 (.cells (av 5 (w64 (fun _ => 0))) 187) fun g3 u3 M => ZG M 2 5 (w64 x) fun u4 M => nT <| sR <| rV 1 <| ZE M 8 2 0 <| rV 2 <| ZP64 M 2 0 (ua (x 0) 5) fun u5 M => nT <| sR ?_
 refine pA M 12 2 5 (w64 (mo5 x)) <| ZC M 13 (fun w M => c_settled (mo5 x) w M.laid) fun u6 M => rV 3 <| pN M 4 (.cells (av 5 (w64 (fun _ => 0))) 187) fun g4 u7 M => ZG M 3 5 (w64 (s5 (mo5 x))) fun u8 M => rV 1 <| nT <| sR <| rV 1 <| ZE M 17 0 0 <| rV 4 <| ZP64 M 0 0 (ua (x 0) (um (c5 (mo5 x)) 5)) fun u9 M => nT <| sR <| pA M 23 0 5 (w64 (upd x 0 (ua (x 0) (um (c5 (mo5 x)) 5)))) <| ZC M 24 (fun w M => c_settled (upd x 0 (ua (x 0) (um (c5 (mo5 x)) 5))) w M.laid) fun u10 M => ?_
 refine rV 3 <| ZG M 0 5 (w64 (s5 (upd x 0 (ua (x 0) (um (c5 (mo5 x)) 5))))) fun u11 M => nT <| sR ?_
 refine pA M 27 0 5 (w64 (s5 (upd x 0 (ua (x 0) (um (c5 (mo5 x)) 5))))) <| ZG M 1 5 (w64 (s5 (upd x 0 (ua (x 0) (um (c5 (mo5 x)) 5))))) fun u12 M => nT <| wp_ret ?_
 exact bc Tryz.results140 M 1 5 (w64 (s5 (upd x 0 (ua (x 0) (um (c5 (mo5 x)) 5))))) ⟨rfl, below_grown M.old⟩
def nof (p : NI) : Nat → (Nat → Int)
 | 0 => fun _ => 0
 | j + 1 => upd (nof p j) (8 * j / 26) (uo (nof p j (8 * j / 26)) (sl (cv .u64 (p j)) (8 * j % 26)))
def noF (p : NI) : Nat → Int := s5 (nof p 17)
theorem c_number (p : NI) (w : World) (hL : Laid w)  : Cs 164 #[.agg (av 17 (w8 p))] w (.agg (av 5 (w64 (noF p)))) := by
 go_enter Tryz.func164, Tryz.ntmps164
 have M := Mem.start hL
 refine sR <| pN M 1 (.cells (av 17 (w8 p)) 223) fun g1 u1 M => pN M 2 (.cells (av 5 (w64 (fun _ => 0))) 187) fun g2 u2 M => nT <| sR <| pN M 3 (.cells (av 5 (w64 (fun _ => 0))) 187) fun g3 u3 M => nT <| wp_seq <| sR <| pA M 6 0 17 (w8 p) <| rV 1 <| nT <| wp_block ?_
 refine au_loop (fun j a w' => ∃ v1 : NV, a = (fm ([.agg (av 17 (w8 p)), pJ g1, pJ g2, pJ g3] ++ vr v1 4 2 ++ [.agg (av 17 (w8 p)), .int .i64 (j : Int)] ++ vr v1 8 23)) ∧ Mem ⟨w, []⟩ [⟨g1, .cells (av 17 (w8 p)) 223⟩, ⟨g2, .cells (av 5 (w64 (fun _ => 0))) 187⟩, ⟨g3, .cells (av 5 (w64 (nof p j))) 187⟩] w') 17 (exS M) ?_ ?_
 ·intro j a u0 hj hI
  obtain ⟨v1, rfl, M⟩ := hI
  refine sR <| ZT 8 ((j : Int) < 17) <| nT <| wp_seq <| cT <| wp_skip <| au_then <| wp_seq <| wp_block <| sR <| rV 1 <| pH 10 (.int .u8 (p (j))) (run_ixA 223 17 5 Tryz.underlying223 inz5 (fun _ => by kernel_rfl) _ _ rfl (w8 p) (by kernel_rfl) .i64 (j) (by kernel_rfl) (by omega) rfl) <| rV 2 <| nT <| rg_tail M 13 (by kernel_rfl) (by kernel_rfl) ?_
  simp only [List.take_succ_cons, List.take_zero]
  refine kR 1 <| eI 12 (8 * (j : Int)) ((8 * j : Nat) : Int) <| eQ 13 .i64 (IntKind.wrap .i64 (((8 * j : Nat) : Int).tdiv 26)) (quo26 (8 * j) (by omega)) <| eX 14 .i64 g3 ((8 * j / 26 : Nat)) 5 <| eE M 15 2 ((8 * j / 26 : Nat)) <| kR 3 <| eI 19 (8 * (j : Int)) ((8 * j : Nat) : Int) <| eQ 20 .i64 (Int.tmod ((8 * j : Nat) : Int) 26) (rem26 (8 * j)) <| kH 21 (.int .u64 (sl (cv .u64 (p j)) (8 * j % 26))) (run_shlU 86 3 _ _ rfl _ .i64 (8 * j % 26) (by kernel_rfl) (by kernel_rfl) (by omega)) <| kR 1 <| eX 23 .i64 g3 ((8 * j / 26 : Nat)) 5 <| kl_nil fun u4 M => ZP64 M 2 ((8 * j / 26 : Nat)) (uo ((nof p j) ((8 * j / 26 : Nat))) (sl (cv .u64 (p j)) (8 * j % 26))) fun u5 M => pl_nil <| au_block <| au_then ?_
  refine rg_lit <| ZI 24 ((j : Int) + 1) ((j + 1 : Nat) : Int) <| rV 1 <| nT ?_
  exact exS M
 ·intro a u0 hI
  obtain ⟨v1, rfl, M⟩ := hI
  refine sR <| ZF 8 (17 < 17) <| nT <| wp_seq <| cF <| wp_exit <| au_then_exit <| au_then_exit <| au_block_exit <| au_then <| sR <| pA M 26 2 5 (w64 (nof p 17)) <| ZC M 27 (fun w M => c_settled (nof p 17) w M.laid) fun u6 M => rV 3 <| ZG M 2 5 (w64 (s5 (nof p 17))) fun u7 M => nT ?_
  refine sR <| pA M 30 2 5 (w64 (s5 (nof p 17))) <| ZG M 1 5 (w64 (s5 (nof p 17))) fun u8 M => nT <| wp_ret ?_
  exact bc Tryz.results164 M 1 5 (w64 (s5 (nof p 17))) ⟨rfl, below_grown M.old⟩
def pd (b : NI) (n : Nat) : Nat → Int := fun i => if i < n then b i else 0
theorem pd_fn (b : NI) (n : Nat) (j : Nat) : (if 0 ≤ j ∧ j < 0 + n then w8 b (j - 0) else w8 (fun _ => 0) j) = w8 (pd b n) j := by
 unfold w8 pd
 by_cases h : j < n
 ·rw [if_pos (by omega), if_pos h, Nat.sub_zero]
 ·rw [if_neg (by omega), if_neg h]
def fc1 (p : NI) : Nat → Int := upd (upd (upd (upd p 3 (nb8 (p 3) 15)) 7 (nb8 (p 7) 15)) 11 (nb8 (p 11) 15)) 15 (nb8 (p 15) 15)
def fc2 (p : NI) : Nat → Int := upd (upd (upd p 4 (db8 (p 4) 3)) 8 (db8 (p 8) 3)) 12 (db8 (p 12) 3)
def mk (b : NI) (n : Nat) : Nat → Int := upd (pd b n) n 1
theorem c_plain (s : Yb) (hs : s.size = 16) (w : World) (hL : Laid w)  : Cs 135 #[.string s] w (.agg (av 5 (w64 (noF (pd (bt s) 16))))) := by
 go_enter Tryz.func135, Tryz.ntmps135
 have M := Mem.start hL
 refine sR <| pN M 2 (.cells (av 5 (w64 (fun _ => 0))) 187) fun g1 u1 M => nT <| sR <| pN M 3 (.cells (av 17 (w8 (fun _ => 0))) 223) fun g2 u2 M => nT <| sR <| rV 2 <| pl_copyS M (want_no rfl) (some 6) rfl 61 9 3 5 Tryz.underlying61 inz5 1 g2 17 223 (w8 (fun _ => 0)) rfl 0 17 17 s 16 (by rw [hs]; decide) (by decide) (w8 (pd (bt s) 16)) (fun j _ => pd_fn (bt s) 16 j) (fun _ => by kernel_rfl) fun u3 M => nT <| sR <| pA M 7 1 17 (w8 (pd (bt s) 16)) <| ZC M 8 (fun w M => c_number (pd (bt s) 16) w M.laid) fun u4 M => ZG M 0 5 (w64 (noF (pd (bt s) 16))) fun u5 M => nT <| wp_ret ?_
 exact bc Tryz.results135 M 0 5 (w64 (noF (pd (bt s) 16))) ⟨rfl, below_grown M.old⟩
theorem c_factor (s : Yb) (hs : s.size = 16) (w : World) (hL : Laid w)  : Cs 134 #[.string s] w (.agg (av 5 (w64 (noF (fc2 (fc1 (pd (bt s) 16))))))) := by
 go_enter Tryz.func134, Tryz.ntmps134
 have M := Mem.start hL
 refine sR <| pN M 2 (.cells (av 5 (w64 (fun _ => 0))) 187) fun g1 u1 M => nT <| sR <| pN M 3 (.cells (av 17 (w8 (fun _ => 0))) 223) fun g2 u2 M => nT <| sR <| rV 2 <| pl_copyS M (want_no rfl) (some 8) rfl 61 9 3 5 Tryz.underlying61 inz5 1 g2 17 223 (w8 (fun _ => 0)) rfl 0 17 17 s 16 (by rw [hs]; decide) (by decide) (w8 (pd (bt s) 16)) (fun j _ => pd_fn (bt s) 16 j) (fun _ => by kernel_rfl) fun u3 M => nT <| wp_seq <| sq <| wp_block <| wp_loop_rounds 5 ?_
 refine rounds_go <| wp_seq <| sq <| cT <| wp_skip <| au_then <| wp_seq <| wp_block <| rg_lit <| rV 2 <| ZE M 15 1 3 <| rV 2 <| ZP8 M 1 3 (nb8 ((pd (bt s) 16) 3) 15) fun u4 M => pl_nil <| au_block <| au_then ?_
 refine rg_lit <| rV 3 <| nT <| rounds_go <| wp_seq <| sq <| cT <| wp_skip <| au_then <| wp_seq <| wp_block <| rg_lit <| rV 2 <| ZE M 15 1 7 <| rV 2 <| ZP8 M 1 7 (nb8 ((pd (bt s) 16) 7) 15) fun u5 M => ?_
 refine pl_nil <| au_block <| au_then <| rg_lit <| rV 3 <| nT <| rounds_go <| wp_seq <| sq <| cT <| wp_skip <| au_then <| wp_seq <| wp_block <| rg_lit <| rV 2 ?_
 refine ZE M 15 1 11 <| rV 2 <| ZP8 M 1 11 (nb8 ((pd (bt s) 16) 11) 15) fun u6 M => pl_nil <| au_block <| au_then <| rg_lit <| rV 3 <| nT <| rounds_go <| wp_seq <| sq <| cT <| wp_skip <| au_then <| wp_seq ?_
 refine wp_block <| rg_lit <| rV 2 <| ZE M 15 1 15 <| rV 2 <| ZP8 M 1 15 (nb8 ((pd (bt s) 16) 15) 15) fun u7 M => pl_nil <| au_block <| au_then <| rg_lit <| rV 3 <| nT <| rounds_go <| wp_seq <| sq <| cF ?_
 refine wp_exit <| au_then_exit <| au_then_exit <| au_block_exit <| au_then <| wp_seq <| sR <| rV 1 <| nT <| wp_block <| wp_loop_rounds 4 ?_
 refine rounds_go <| wp_seq <| sq <| cT <| wp_skip <| au_then <| wp_seq <| wp_block <| rg_lit <| rV 2 <| ZE M 24 1 4 <| rV 2 <| ZP8 M 1 4 (db8 ((fc1 (pd (bt s) 16)) 4) 3) fun u8 M => pl_nil <| au_block <| au_then ?_
 refine rg_lit <| rV 3 <| nT <| rounds_go <| wp_seq <| sq <| cT <| wp_skip <| au_then <| wp_seq <| wp_block <| rg_lit <| rV 2 <| ZE M 24 1 8 <| rV 2 <| ZP8 M 1 8 (db8 ((fc1 (pd (bt s) 16)) 8) 3) fun u9 M => ?_
 refine pl_nil <| au_block <| au_then <| rg_lit <| rV 3 <| nT <| rounds_go <| wp_seq <| sq <| cT <| wp_skip <| au_then <| wp_seq <| wp_block <| rg_lit <| rV 2 ?_
 refine ZE M 24 1 12 <| rV 2 <| ZP8 M 1 12 (db8 ((fc1 (pd (bt s) 16)) 12) 3) fun u10 M => pl_nil <| au_block <| au_then <| rg_lit <| rV 3 <| nT <| rounds_go <| wp_seq <| sq <| cF <| wp_exit <| au_then_exit <| au_then_exit ?_
 refine au_block_exit <| au_then <| sR <| pA M 27 1 17 (w8 (fc2 (fc1 (pd (bt s) 16)))) <| ZC M 28 (fun w M => c_number (fc2 (fc1 (pd (bt s) 16))) w M.laid) fun u11 M => ZG M 0 5 (w64 (noF (fc2 (fc1 (pd (bt s) 16))))) fun u12 M => nT <| wp_ret ?_
 exact bc Tryz.results134 M 0 5 (w64 (noF (fc2 (fc1 (pd (bt s) 16))))) ⟨rfl, below_grown M.old⟩
theorem c_marked (b : NI) (n : Nat) (hn : n ≤ 16) (gq off cap : Nat) (w : World) (hL : Laid w) (hsrc : ∀ j, j < n → w.cell? ⟨gq, off + j, none⟩ = some (w8 b j)) : Cs 138 #[.slice (some ⟨gq, off, none⟩) n cap] w (.agg (av 5 (w64 (noF (mk b n))))) := by
 go_enter Tryz.func138, Tryz.ntmps138
 have M := Mem.start hL
 refine sR <| pN M 2 (.cells (av 5 (w64 (fun _ => 0))) 187) fun g1 u1 M => nT <| sR <| pN M 3 (.cells (av 17 (w8 (fun _ => 0))) 223) fun g2 u2 M => nT <| sR <| rV 2 <| pl_copyC M (want_no rfl) (some 6) rfl 61 61 3 5 Tryz.underlying61 inz5 1 g2 17 223 (w8 (fun _ => 0)) rfl gq (w8 b) 0 17 17 off n cap n (Nat.min_eq_left (by omega)).symm (by omega) (fun w M j hj => M.oldc (hsrc j hj) (by simp)) (fun _ => rfl) (w8 (pd b n)) (fun j _ => pd_fn b n j) (fun _ => by kernel_rfl) fun u3 M => ZX 7 .i64 g2 (n) 17 <| ZP8 M 1 n 1 fun u4 M => nT <| sR <| pA M 8 1 17 (w8 (mk b n)) <| ZC M 9 (fun w M => c_number (mk b n) w M.laid) fun u5 M => ZG M 0 5 (w64 (noF (mk b n))) fun u6 M => ?_
 refine nT <| wp_ret ?_
 exact bc Tryz.results138 M 0 5 (w64 (noF (mk b n))) ⟨rfl, below_grown M.old⟩
def p6 (a : NI) : Nat → Int := fun i => if i < 5 then a i else 0
theorem p6_fn (a : NI) (j : Nat) : (if 0 ≤ j ∧ j < 0 + 5 then w64 a (0 + (j - 0)) else w64 (fun _ => 0) j) = w64 (p6 a) j := by
 unfold w64 p6
 by_cases h : j < 5
 ·rw [if_pos (by omega), if_pos h, Nat.sub_zero, Nat.zero_add]
 ·rw [if_neg (by omega), if_neg h]
def tb (a : NI) (i : Nat) : Int := cv .u8 (sr (uo (p6 a (8 * i / 26)) (sl (p6 a (8 * i / 26 + 1)) 26)) (8 * i % 26))
def tbs (a : NI) : Nat → (Nat → Int)
 | 0 => fun _ => 0
 | j + 1 => upd (tbs a j) j (tb a j)
theorem tbs_at (a : NI) : ∀ n, ∀ i, i < n → tbs a n i = tb a i
 | 0, i, h => absurd h (by omega)
 | n + 1, i, h => by
  unfold tbs upd
  by_cases e : i = n
  ·rw [if_pos e, e]
  ·rw [if_neg e, tbs_at a n i (by omega)]
theorem tbs_map (a : NI) : (List.range 16).map (tbs a 16) = (List.range 16).map (tb a) := List.map_congr_left fun i hi => tbs_at a 16 i (List.mem_range.1 hi)
theorem tb_nn (a : NI) : ∀ y ∈ (List.range 16).map (tb a), 0 ≤ y ∧ y < 256 := fun y hy => by
 obtain ⟨i, _, rfl⟩ := List.mem_map.1 hy
 exact cv8_nn _
def txS (a : NI) : ByteArray := bs ((List.range 16).map (tb (s5 a)))
theorem c_text (x : NI) (w : World) (hL : Laid w)  : Cs 141 #[.agg (av 5 (w64 x))] w (.string (txS x)) := by
 go_enter Tryz.func141, Tryz.ntmps141
 have M := Mem.start hL
 refine sR <| pN M 1 (.cells (av 5 (w64 x)) 187) fun g1 u1 M => rV 1 <| nT <| sR <| pA M 8 0 5 (w64 x) <| ZC M 9 (fun w M => c_settled x w M.laid) fun u2 M => rV 3 <| ZG M 0 5 (w64 (s5 x)) fun u3 M => nT <| sR <| pN M 3 (.cells (av 6 (w64 (fun _ => 0))) 230) fun g2 u4 M => nT <| wp_seq <| rg_tail M 2 (by kernel_rfl) (by kernel_rfl) ?_
 simp only [List.take_succ_cons, List.take_zero]
 refine kR 2 <| kl_nil fun u5 M => pl_copyB M (want_no rfl) (some 14) rfl 227 227 3 86 Tryz.underlying227 inz86 1 g2 6 230 (w64 (fun _ => 0)) rfl 0 g1 5 187 (w64 (s5 x)) rfl 0 6 6 0 5 5 5 rfl (by decide) (by decide) (fun _ _ => rfl) (w64 (p6 (s5 x))) (fun j _ => p6_fn (s5 x) j) (fun _ => by kernel_rfl) fun u6 M => nT <| sR <| pN M 4 (.cells (av 16 (w8 (fun _ => 0))) 214) fun g3 u7 M => nT <| wp_seq <| sq <| wp_block ?_
 refine au_loop (fun j a w' => ∃ v1 : NV, a = (fm ([.agg (av 5 (w64 x)), pJ g1, .string ⟨#[]⟩, pJ g2, pJ g3] ++ vr v1 5 10 ++ [.int .i64 (j : Int)] ++ vr v1 16 24)) ∧ Mem ⟨w, []⟩ [⟨g1, .cells (av 5 (w64 (s5 x))) 187⟩, ⟨g2, .cells (av 6 (w64 (p6 (s5 x)))) 230⟩, ⟨g3, .cells (av 16 (w8 (tbs (s5 x) j))) 214⟩] w') 16 (exS M) ?_ ?_
 ·intro j a u0 hj hI
  obtain ⟨v1, rfl, M⟩ := hI
  refine sR <| ZT 16 ((j : Int) < 16) <| nT <| wp_seq <| cT <| wp_skip <| au_then <| wp_seq <| wp_block <| sq <| sR <| rV 1 <| ZI 19 (8 * (j : Int)) ((8 * j : Nat) : Int) <| ZQ 20 .i64 (IntKind.wrap .i64 (((8 * j : Nat) : Int).tdiv 26)) (quo26 (8 * j) (by omega)) <| rV 1 <| nT ?_
  refine rg_tail M 16 (by kernel_rfl) (by kernel_rfl) ?_
  simp only [List.take_succ_cons, List.take_zero]
  refine kR 2 <| eX 23 .i64 g2 ((8 * j / 26 : Nat)) 6 <| eE M 24 1 ((8 * j / 26 : Nat)) <| kR 1 <| eI 26 (((8 * j / 26 : Nat) : Int) + 1) ((8 * j / 26 + 1 : Nat) : Int) <| eX 27 .i64 g2 ((8 * j / 26 + 1 : Nat)) 6 <| eE M 28 1 ((8 * j / 26 + 1 : Nat)) <| kR 3 <| eI 32 (8 * (j : Int)) ((8 * j : Nat) : Int) <| eQ 33 .i64 (Int.tmod ((8 * j : Nat) : Int) 26) (rem26 (8 * j)) <| kH 34 (.int .u64 (sr (uo (p6 (s5 x) (8 * j / 26)) (sl (p6 (s5 x) (8 * j / 26 + 1)) 26)) (8 * j % 26))) (run_shrU 86 3 _ _ rfl _ .i64 (8 * j % 26) (by kernel_rfl) (by kernel_rfl) (by omega)) <| kR 1 <| eX 36 .i64 g3 (j) 16 <| kl_nil fun u8 M => ZP8 M 2 j (cv .u8 (sr (uo (p6 (s5 x) (8 * j / 26)) (sl (p6 (s5 x) (8 * j / 26 + 1)) 26)) (8 * j % 26))) fun u9 M => pl_nil ?_
  refine au_block <| au_then <| rg_lit <| ZI 37 ((j : Int) + 1) ((j + 1 : Nat) : Int) <| rV 1 <| nT ?_
  exact exS M
 ·intro a u0 hI
  obtain ⟨v1, rfl, M⟩ := hI
  refine sR <| ZF 16 (16 < 16) <| nT <| wp_seq <| cF <| wp_exit <| au_then_exit <| au_then_exit <| au_block_exit <| au_then <| sR <| rV 1 <| pl_back M (want_no rfl) (some 39) rfl _ rfl 2 g3 16 16 (by kernel_rfl) _ rfl ((List.range 16).map (tbs (s5 x) 16)) 16 (sb_av 16 _ _) (by simp) (by rw [tbs_map]; exact tb_nn _) ?_
  rw [tbs_map]
  refine rV 1 <| nT <| wp_ret ?_
  exact b1 M
open Go.RowKit
def tr (P a b : NI) (i : Nat) : Nat → (Nat → Int)
 | 0 => P
 | j + 1 => upd (tr P a b i j) (i + j) (ua (tr P a b i j (i + j)) (um (a i) (b j)))
def tp (n : Nat) (a b : NI) : Nat → (Nat → Int)
 | 0 => fun _ => 0
 | i + 1 => tr (tp n a b i) a b i n
def tlo (P : NI) : Nat → (Nat → Int)
 | 0 => P
 | j + 1 => upd (tlo P j) j (ua (tlo P j j) (um (P (5 + j)) 5))
def tmF (a b : NI) : Nat → Int := crF (tlo (tp 5 a b 5) 4)
theorem cp_fn (a : NI) (j : Nat) (hj : j < 5) : (if 0 ≤ j ∧ j < 0 + 5 then w64 a (0 + (j - 0)) else w64 (fun _ => 0) j) = w64 a j := by
 rw [if_pos (by omega), Nat.sub_zero, Nat.zero_add]
theorem c_times (x y : NI) (w : World) (hL : Laid w)  : Cs 139 #[.agg (av 5 (w64 x)), .agg (av 5 (w64 y))] w (.agg (av 5 (w64 (tmF x y)))) := by
 go_enter Tryz.func139, Tryz.ntmps139
 have M := Mem.start hL
 refine sR <| pN M 2 (.cells (av 5 (w64 x)) 187) fun g1 u1 M => pN M 3 (.cells (av 5 (w64 y)) 187) fun g2 u2 M => pN M 4 (.cells (av 5 (w64 (fun _ => 0))) 187) fun g3 u3 M => nT <| sR <| pN M 5 (.cells (av 9 (w64 (fun _ => 0))) 226) fun g4 u4 M => nT <| wp_seq <| sR <| pA M 13 0 5 (w64 x) <| rV 1 <| nT <| wp_block ?_
 refine au_loop (fun i a w' => ∃ v1 : NV, a = (fm ([.agg (av 5 (w64 x)), .agg (av 5 (w64 y)), pJ g1, pJ g2, pJ g3, pJ g4] ++ vr v1 6 7 ++ [.agg (av 5 (w64 x)), .int .i64 (i : Int)] ++ vr v1 15 40)) ∧ Mem ⟨w, []⟩ [⟨g1, .cells (av 5 (w64 x)) 187⟩, ⟨g2, .cells (av 5 (w64 y)) 187⟩, ⟨g3, .cells (av 5 (w64 (fun _ => 0))) 187⟩, ⟨g4, .cells (av 9 (w64 (tp 5 x y i))) 226⟩] w') 5 (exS M) ?_ ?_
 ·intro i a u0 hi hI
  obtain ⟨v1, rfl, M⟩ := hI
  refine sR <| ZT 15 ((i : Int) < 5) <| nT <| wp_seq <| cT <| wp_skip <| au_then <| wp_seq <| wp_block <| sR <| rV 1 <| pH 17 (.int .u64 (x (i))) (run_ixA 187 5 86 Tryz.underlying187 inz86 (fun _ => by kernel_rfl) _ _ rfl (w64 x) (by kernel_rfl) .i64 (i) (by kernel_rfl) (by omega) rfl) <| rV 2 <| nT <| sR <| pA M 18 1 5 (w64 y) ?_
  refine rV 1 <| nT <| wp_block ?_
  refine au_loop (fun j a w' => ∃ v2 : NV, a = (fm ([.agg (av 5 (w64 x)), .agg (av 5 (w64 y)), pJ g1, pJ g2, pJ g3, pJ g4, .int .i64 (i : Int), .int .u64 (x (i))] ++ vr v2 8 5 ++ [.agg (av 5 (w64 x)), .int .i64 (i : Int)] ++ vr v2 15 3 ++ [.agg (av 5 (w64 y)), .int .i64 (j : Int)] ++ vr v2 20 35)) ∧ Mem ⟨w, []⟩ [⟨g1, .cells (av 5 (w64 x)) 187⟩, ⟨g2, .cells (av 5 (w64 y)) 187⟩, ⟨g3, .cells (av 5 (w64 (fun _ => 0))) 187⟩, ⟨g4, .cells (av 9 (w64 (tr (tp 5 x y i) x y i j))) 226⟩] w') 5 (exS M) ?_ ?_
  ·intro j a u0 hj hI
   obtain ⟨v2, rfl, M⟩ := hI
   refine sR <| ZT 20 ((j : Int) < 5) <| nT <| wp_seq <| cT <| wp_skip <| au_then <| wp_seq <| wp_block <| sR <| rV 1 <| pH 22 (.int .u64 (y (j))) (run_ixA 187 5 86 Tryz.underlying187 inz86 (fun _ => by kernel_rfl) _ _ rfl (w64 y) (by kernel_rfl) .i64 (j) (by kernel_rfl) (by omega) rfl) <| rV 2 <| nT <| rg_lit <| rV 2 ?_
   refine ZI 25 ((i : Int) + (j : Int)) ((i + j : Nat) : Int) <| ZX 26 .i64 g4 ((i + j : Nat)) 9 <| ZE M 27 3 ((i + j : Nat)) <| rV 4 <| ZX 32 .i64 g4 ((i + j : Nat)) 9 <| ZP64 M 3 ((i + j : Nat)) (ua ((tr (tp 5 x y i) x y i j) ((i + j : Nat))) (um (x (i)) (y (j)))) fun u5 M => pl_nil <| au_block <| au_then <| rg_lit <| ZI 33 ((j : Int) + 1) ((j + 1 : Nat) : Int) <| rV 1 <| nT ?_
   exact exS M
  ·intro a u0 hI
   obtain ⟨v2, rfl, M⟩ := hI
   refine sR <| ZF 20 (5 < 5) <| nT <| wp_seq <| cF <| wp_exit <| au_then_exit <| au_then_exit <| au_block_exit <| au_block <| au_then <| rg_lit <| ZI 34 ((i : Int) + 1) ((i + 1 : Nat) : Int) <| rV 1 <| nT ?_
   exact exS M
 ·intro a u0 hI
  obtain ⟨v1, rfl, M⟩ := hI
  refine sR <| ZF 15 (5 < 5) <| nT <| wp_seq <| cF <| wp_exit <| au_then_exit <| au_then_exit <| au_block_exit <| au_then <| sR <| pN M 10 (.cells (av 5 (w64 (fun _ => 0))) 187) fun g5 u6 M => nT <| wp_seq <| rg_tail M 2 (by kernel_rfl) (by kernel_rfl) ?_
  simp only [List.take_succ_cons, List.take_zero]
  refine kR 2 <| kl_nil fun u7 M => pl_copyB M (want_no rfl) (some 37) rfl 227 227 3 86 Tryz.underlying227 inz86 4 g5 5 187 (w64 (fun _ => 0)) rfl 3 g4 9 226 (w64 (tp 5 x y 5)) rfl 0 5 5 0 5 9 5 rfl (by decide) (by decide) (fun _ _ => rfl) (w64 (tp 5 x y 5)) (fun j hj => cp_fn (tp 5 x y 5) j hj) (fun _ => by kernel_rfl) fun u8 M => nT <| wp_seq <| sq <| wp_block ?_
  refine au_loop (fun j a w' => ∃ v3 : NV, a = (fm ([.agg (av 5 (w64 x)), .agg (av 5 (w64 y)), pJ g1, pJ g2, pJ g3, pJ g4] ++ vr v3 6 4 ++ [pJ g5] ++ vr v3 11 2 ++ [.agg (av 5 (w64 x)), .int .i64 (5 : Int)] ++ vr v3 15 23 ++ [.slice (some ⟨g4, 5, none⟩) 4 4, .int .i64 4, .int .i64 (j : Int)] ++ vr v3 41 14)) ∧ Mem ⟨w, []⟩ [⟨g1, .cells (av 5 (w64 x)) 187⟩, ⟨g2, .cells (av 5 (w64 y)) 187⟩, ⟨g3, .cells (av 5 (w64 (fun _ => 0))) 187⟩, ⟨g4, .cells (av 9 (w64 (tp 5 x y 5))) 226⟩, ⟨g5, .cells (av 5 (w64 (tlo (tp 5 x y 5) j))) 187⟩] w') 4 (exS M) ?_ ?_
  ·intro j a u0 hj hI
   obtain ⟨v3, rfl, M⟩ := hI
   refine sR <| ZT 41 ((j : Int) < 4) <| nT <| wp_seq <| cT <| wp_skip <| au_then <| wp_seq <| wp_block <| sR <| rV 1 <| pH 43 (pJ g4 (5 + j)) (run_ixL 227 86 Tryz.underlying227 inz86 _ _ rfl g4 5 4 4 (by kernel_rfl) .i64 j (by kernel_rfl) hj) <| ZE M 44 3 (5 + j) <| rV 2 <| nT <| rg_lit ?_
   refine rV 1 <| ZX 46 .i64 g5 (j) 5 <| ZE M 47 4 j <| rV 3 <| ZX 51 .i64 g5 (j) 5 <| ZP64 M 4 j (ua ((tlo (tp 5 x y 5) j) j) (um ((tp 5 x y 5) (5 + j)) 5)) fun u9 M => pl_nil <| au_block <| au_then <| rg_lit <| ZI 52 ((j : Int) + 1) ((j + 1 : Nat) : Int) <| rV 1 <| nT ?_
   exact exS M
  ·intro a u0 hI
   obtain ⟨v3, rfl, M⟩ := hI
   refine sR <| ZF 41 (4 < 4) <| nT <| wp_seq <| cF <| wp_exit <| au_then_exit <| au_then_exit <| au_block_exit <| au_then <| sR <| pA M 53 4 5 (w64 (tlo (tp 5 x y 5) 4)) <| ZC M 54 (fun w M => c_carried (tlo (tp 5 x y 5) 4) w M.laid) fun u10 M => ZG M 2 5 (w64 (crF (tlo (tp 5 x y 5) 4))) fun u11 M => nT <| wp_ret ?_
   exact bc Tryz.results139 M 2 5 (w64 (crF (tlo (tp 5 x y 5) 4))) ⟨rfl, below_grown M.old⟩
open Go.RowKit
theorem st_ge (m : Int) (sh : Nat) (a : NI) : ∀ j i, j ≤ i → st m sh a j i = a i
 | 0, _, _ => rfl
 | j + 1, i, h => by
  unfold st upd
  rw [if_neg (by omega), st_ge m sh a j i (by omega)]
theorem st_cell (m : Int) (sh : Nat) (a : NI) (j : Nat) : w64 (st m sh a j) j = .int .u64 (a j) := by
 unfold w64
 rw [st_ge m sh a j j (Nat.le_refl _)]
def dch (a : NI) : Nat → Int := st 255 8 a 18
def dtop (a : NI) : Int := uo (uo (sr (dch a 16) 2) (sl (dch a 17) 6)) (sl (cy 8 a 18) 14)
def d0 (a : NI) : Nat → Int := upd (upd (dch a) 16 (un (dch a 16) 3)) 17 0
def d1 (a : NI) : Nat → Int := upd (d0 a) 0 (ua (d0 a 0) (um 5 (dtop a)))
def dr (a : NI) : Nat → (Nat → Int)
 | 0 => a
 | j + 1 => d1 (dr a j)
def dcF (a : NI) : Nat → Int := st 255 8 (dr a 3) 18
theorem d_carry (x : NI) (w : World) (hL : Laid w)  : Cs 149 #[.agg (av 18 (w64 x))] w (.agg (av 18 (w64 (dcF x)))) := by
 go_enter Tryz.func149, Tryz.ntmps149
 have M := Mem.start hL
 refine sR <| pN M 1 (.cells (av 18 (w64 x)) 204) fun g1 u1 M => pN M 2 (.cells (av 18 (w64 (fun _ => 0))) 204) fun g2 u2 M => nT <| wp_seq <| sq <| wp_block ?_
 refine au_loop (fun i a w' => ∃ v1 : NV, a = (fm ([.agg (av 18 (w64 x)), pJ g1, pJ g2, .int .i64 (i : Int)] ++ vr v1 4 63)) ∧ Mem ⟨w, []⟩ [⟨g1, .cells (av 18 (w64 (dr x i))) 204⟩, ⟨g2, .cells (av 18 (w64 (fun _ => 0))) 204⟩] w') 3 (exS M) ?_ ?_
 ·intro i a u0 hi hI
  obtain ⟨v1, rfl, M⟩ := hI
  refine wp_seq <| sR <| rV 1 <| ZT 12 ((i : Int) < 3) <| nT <| cT <| wp_skip <| au_then <| wp_seq <| wp_block <| sq <| wp_seq <| sq <| wp_block ?_
  refine au_loop (fun j a w' => ∃ v2 : NV, a = (fm ([.agg (av 18 (w64 x)), pJ g1, pJ g2, .int .i64 (i : Int), .int .u64 (cy 8 (dr x i) j), .int .i64 (j : Int)] ++ vr v2 6 61)) ∧ Mem ⟨w, []⟩ [⟨g1, .cells (av 18 (w64 (st 255 8 (dr x i) j))) 204⟩, ⟨g2, .cells (av 18 (w64 (fun _ => 0))) 204⟩] w') 18 (exS M) ?_ ?_
  ·intro j a u0 hj hI
   obtain ⟨v2, rfl, M⟩ := hI
   refine wp_seq <| sR <| rV 1 <| ZT 16 ((j : Int) < 18) <| nT <| cT <| wp_skip <| au_then <| wp_seq <| wp_block <| sR <| rV 1 <| ZX 20 .i64 g1 (j) 18 <| pE M 21 g1 j (.int .u64 ((dr x i) j)) (fun w M => M.cell 0 rfl (by omega) (st_cell 255 8 (dr x i) j)) <| rV 3 <| nT ?_
   refine sR <| rV 3 <| ZX 27 .i64 g1 (j) 18 <| ZP64 M 0 j (un (ua ((dr x i) j) (cy 8 (dr x i) j)) 255) fun u3 M => nT <| rg_lit <| rV 3 <| pl_nil <| au_block <| au_then <| rg_lit <| rV 1 <| ZI 18 ((j : Int) + 1) ((j + 1 : Nat) : Int) <| rV 1 <| nT ?_
   exact exS M
  ·intro a u0 hI
   obtain ⟨v2, rfl, M⟩ := hI
   refine wp_seq <| sR <| rV 1 <| ZF 16 (18 < 18) <| nT <| cF <| wp_exit <| au_then_exit <| au_then_exit <| au_block_exit <| au_then <| sR <| rV 1 <| ZE M 31 0 16 <| rV 2 <| ZE M 34 0 17 ?_
   refine rV 6 <| nT <| sR <| rV 1 <| ZE M 41 0 16 <| rV 2 <| ZP64 M 0 16 (un ((dch (dr x i)) 16) 3) fun u4 M => nT ?_
   refine sR <| rV 1 <| ZP64 M 0 17 0 fun u5 M => nT ?_
   refine rg_lit <| rV 1 <| ZE M 46 0 0 <| rV 4 ?_
   refine ZP64 M 0 0 (ua ((d0 (dr x i)) 0) (um 5 (dtop (dr x i)))) fun u6 M => pl_nil <| au_block <| au_then <| rg_lit <| rV 1 <| ZI 14 ((i : Int) + 1) ((i + 1 : Nat) : Int) <| rV 1 <| nT ?_
   exact exS M
 ·intro a u0 hI
  obtain ⟨v1, rfl, M⟩ := hI
  refine wp_seq <| sR <| rV 1 <| ZF 12 (3 < 3) <| nT <| cF <| wp_exit <| au_then_exit <| au_then_exit <| au_block_exit <| au_then <| sq <| wp_seq <| sq <| wp_block ?_
  refine au_loop (fun j a w' => ∃ v3 : NV, a = (fm ([.agg (av 18 (w64 x)), pJ g1, pJ g2, .int .i64 (3 : Int)] ++ vr v3 4 4 ++ [.int .u64 (cy 8 (dr x 3) j), .int .i64 (j : Int)] ++ vr v3 10 57)) ∧ Mem ⟨w, []⟩ [⟨g1, .cells (av 18 (w64 (st 255 8 (dr x 3) j))) 204⟩, ⟨g2, .cells (av 18 (w64 (fun _ => 0))) 204⟩] w') 18 (exS M) ?_ ?_
  ·intro j a u0 hj hI
   obtain ⟨v3, rfl, M⟩ := hI
   refine wp_seq <| sR <| rV 1 <| ZT 52 ((j : Int) < 18) <| nT <| cT <| wp_skip <| au_then <| wp_seq <| wp_block <| sR <| rV 1 <| ZX 56 .i64 g1 (j) 18 <| pE M 57 g1 j (.int .u64 ((dr x 3) j)) (fun w M => M.cell 0 rfl (by omega) (st_cell 255 8 (dr x 3) j)) <| rV 3 <| nT ?_
   refine sR <| rV 3 <| ZX 63 .i64 g1 (j) 18 <| ZP64 M 0 j (un (ua ((dr x 3) j) (cy 8 (dr x 3) j)) 255) fun u7 M => nT <| rg_lit <| rV 3 <| pl_nil <| au_block <| au_then <| rg_lit <| rV 1 <| ZI 54 ((j : Int) + 1) ((j + 1 : Nat) : Int) <| rV 1 <| nT ?_
   exact exS M
  ·intro a u0 hI
   obtain ⟨v3, rfl, M⟩ := hI
   refine wp_seq <| sR <| rV 1 <| ZF 52 (18 < 18) <| nT <| cF <| wp_exit <| au_then_exit <| au_then_exit <| au_block_exit <| au_then <| sR <| pA M 66 0 18 (w64 (st 255 8 (dr x 3) 18)) <| ZG M 1 18 (w64 (st 255 8 (dr x 3) 18)) fun u8 M => nT <| wp_ret ?_
   exact bc Tryz.results149 M 1 18 (w64 (st 255 8 (dr x 3) 18)) ⟨rfl, below_grown M.old⟩
def dT (a b : NI) : Nat → Int := st 255 8 (tp 18 a b 18) 36
def dlo (T : NI) : Nat → (Nat → Int)
 | 0 => fun _ => 0
 | j + 1 => upd (dlo T j) j (T j)
def dhi (T : NI) : Nat → (Nat → Int)
 | 0 => fun _ => 0
 | j + 1 => upd (dhi T j) j (uo (sr (T (16 + j)) 2) (un (sl (T (17 + j)) 6) 255))
def dl2 (T : NI) : Nat → Int := upd (dlo T 17) 16 (un (dlo T 17 16) 3)
def dl3 (T : NI) : Nat → (Nat → Int)
 | 0 => dl2 T
 | j + 1 => upd (dl3 T j) j (ua (dl3 T j j) (um 5 (dhi T 17 j)))
def dtF (a b : NI) : Nat → Int := dcF (dl3 (dT a b) 18)
theorem d_times (x y : NI) (w : World) (hL : Laid w)  : Cs 148 #[.agg (av 18 (w64 x)), .agg (av 18 (w64 y))] w (.agg (av 18 (w64 (dtF x y)))) := by
 go_enter Tryz.func148, Tryz.ntmps148
 have M := Mem.start hL
 refine sR <| pN M 2 (.cells (av 18 (w64 x)) 204) fun g1 u1 M => pN M 3 (.cells (av 18 (w64 y)) 204) fun g2 u2 M => pN M 4 (.cells (av 18 (w64 (fun _ => 0))) 204) fun g3 u3 M => nT <| sR <| pN M 5 (.cells (av 36 (w64 (fun _ => 0))) 233) fun g4 u4 M => nT <| wp_seq <| sq <| wp_block ?_
 refine au_loop (fun i a w' => ∃ v1 : NV, a = (fm ([.agg (av 18 (w64 x)), .agg (av 18 (w64 y)), pJ g1, pJ g2, pJ g3, pJ g4, .int .i64 (i : Int)] ++ vr v1 7 91)) ∧ Mem ⟨w, []⟩ [⟨g1, .cells (av 18 (w64 x)) 204⟩, ⟨g2, .cells (av 18 (w64 y)) 204⟩, ⟨g3, .cells (av 18 (w64 (fun _ => 0))) 204⟩, ⟨g4, .cells (av 36 (w64 (tp 18 x y i))) 233⟩] w') 18 (exS M) ?_ ?_
 ·intro i a u0 hi hI
  obtain ⟨v1, rfl, M⟩ := hI
  refine wp_seq <| sR <| rV 1 <| ZT 16 ((i : Int) < 18) <| nT <| cT <| wp_skip <| au_then <| wp_seq <| wp_block <| sq <| wp_block ?_
  refine au_loop (fun j a w' => ∃ v2 : NV, a = (fm ([.agg (av 18 (w64 x)), .agg (av 18 (w64 y)), pJ g1, pJ g2, pJ g3, pJ g4, .int .i64 (i : Int), .int .i64 (j : Int)] ++ vr v2 8 90)) ∧ Mem ⟨w, []⟩ [⟨g1, .cells (av 18 (w64 x)) 204⟩, ⟨g2, .cells (av 18 (w64 y)) 204⟩, ⟨g3, .cells (av 18 (w64 (fun _ => 0))) 204⟩, ⟨g4, .cells (av 36 (w64 (tr (tp 18 x y i) x y i j))) 233⟩] w') 18 (exS M) ?_ ?_
  ·intro j a u0 hj hI
   obtain ⟨v2, rfl, M⟩ := hI
   refine wp_seq <| sR <| rV 1 <| ZT 20 ((j : Int) < 18) <| nT <| cT <| wp_skip <| au_then <| wp_seq <| wp_block <| rg_tail M 17 (by kernel_rfl) (by kernel_rfl) ?_
   simp only [List.take_succ_cons, List.take_zero]
   refine kR 2 <| eI 25 ((i : Int) + (j : Int)) ((i + j : Nat) : Int) <| kR 2 <| eI 28 ((i : Int) + (j : Int)) ((i + j : Nat) : Int) <| eX 29 .i64 g4 ((i + j : Nat)) 36 <| eE M 30 3 ((i + j : Nat)) <| kR 1 <| eX 32 .i64 g1 (i) 18 <| eE M 33 0 i <| kR 1 <| eX 35 .i64 g2 (j) 18 <| eE M 36 1 j <| kR 2 <| eX 39 .i64 g4 ((i + j : Nat)) 36 <| kl_nil fun u5 M => ZP64 M 3 ((i + j : Nat)) (ua ((tr (tp 18 x y i) x y i j) ((i + j : Nat))) (um (x i) (y j))) fun u6 M => ?_
   refine pl_nil <| au_block <| au_then <| rg_lit <| rV 1 <| ZI 22 ((j : Int) + 1) ((j + 1 : Nat) : Int) <| rV 1 <| nT ?_
   exact exS M
  ·intro a u0 hI
   obtain ⟨v2, rfl, M⟩ := hI
   refine wp_seq <| sR <| rV 1 <| ZF 20 (18 < 18) <| nT <| cF <| wp_exit <| au_then_exit <| au_then_exit <| au_block_exit <| au_block <| au_then <| rg_lit <| rV 1 <| ZI 18 ((i : Int) + 1) ((i + 1 : Nat) : Int) <| rV 1 ?_
   refine nT ?_
   exact exS M
 ·intro a u0 hI
  obtain ⟨v1, rfl, M⟩ := hI
  refine wp_seq <| sR <| rV 1 <| ZF 16 (18 < 18) <| nT <| cF <| wp_exit <| au_then_exit <| au_then_exit <| au_block_exit <| au_then <| sq <| wp_seq <| sq <| wp_block ?_
  refine au_loop (fun j a w' => ∃ v3 : NV, a = (fm ([.agg (av 18 (w64 x)), .agg (av 18 (w64 y)), pJ g1, pJ g2, pJ g3, pJ g4, .int .i64 (18 : Int), v3 7, .int .u64 (cy 8 (tp 18 x y 18) j), .int .i64 (j : Int)] ++ vr v3 10 88)) ∧ Mem ⟨w, []⟩ [⟨g1, .cells (av 18 (w64 x)) 204⟩, ⟨g2, .cells (av 18 (w64 y)) 204⟩, ⟨g3, .cells (av 18 (w64 (fun _ => 0))) 204⟩, ⟨g4, .cells (av 36 (w64 (st 255 8 (tp 18 x y 18) j))) 233⟩] w') 36 (exS M) ?_ ?_
  ·intro j a u0 hj hI
   obtain ⟨v3, rfl, M⟩ := hI
   refine wp_seq <| sR <| rV 1 <| ZT 41 ((j : Int) < 36) <| nT <| cT <| wp_skip <| au_then <| wp_seq <| wp_block <| sR <| rV 1 <| ZX 45 .i64 g4 (j) 36 <| pE M 46 g4 j (.int .u64 ((tp 18 x y 18) j)) (fun w M => M.cell 3 rfl (by omega) (st_cell 255 8 (tp 18 x y 18) j)) <| rV 3 <| nT ?_
   refine sR <| rV 3 <| ZX 52 .i64 g4 (j) 36 <| ZP64 M 3 j (un (ua ((tp 18 x y 18) j) (cy 8 (tp 18 x y 18) j)) 255) fun u7 M => nT <| rg_lit <| rV 3 <| pl_nil <| au_block <| au_then <| rg_lit <| rV 1 <| ZI 43 ((j : Int) + 1) ((j + 1 : Nat) : Int) <| rV 1 <| nT ?_
   exact exS M
  ·intro a u0 hI
   obtain ⟨v3, rfl, M⟩ := hI
   refine wp_seq <| sR <| rV 1 <| ZF 41 (36 < 36) <| nT <| cF <| wp_exit <| au_then_exit <| au_then_exit <| au_block_exit <| au_then <| sR <| pN M 11 (.cells (av 18 (w64 (fun _ => 0))) 204) fun g5 u8 M => pN M 12 (.cells (av 18 (w64 (fun _ => 0))) 204) fun g6 u9 M => nT <| wp_seq ?_
   refine sq <| wp_block ?_
   refine au_loop (fun j a w' => ∃ v4 : NV, a = (fm ([.agg (av 18 (w64 x)), .agg (av 18 (w64 y)), pJ g1, pJ g2, pJ g3, pJ g4, .int .i64 (18 : Int), v4 7, .int .u64 (cy 8 (tp 18 x y 18) 36), .int .i64 (36 : Int), v4 10, pJ g5, pJ g6, .int .i64 (j : Int)] ++ vr v4 14 84)) ∧ Mem ⟨w, []⟩ [⟨g1, .cells (av 18 (w64 x)) 204⟩, ⟨g2, .cells (av 18 (w64 y)) 204⟩, ⟨g3, .cells (av 18 (w64 (fun _ => 0))) 204⟩, ⟨g4, .cells (av 36 (w64 (dT x y))) 233⟩, ⟨g5, .cells (av 18 (w64 (dlo (dT x y) j))) 204⟩, ⟨g6, .cells (av 18 (w64 (dhi (dT x y) j))) 204⟩] w') 17 (exS M) ?_ ?_
   ·intro j a u0 hj hI
    obtain ⟨v4, rfl, M⟩ := hI
    refine wp_seq <| sR <| rV 1 <| ZT 56 ((j : Int) < 17) <| nT <| cT <| wp_skip <| au_then <| wp_seq <| wp_block <| sR <| rV 2 <| ZX 61 .i64 g4 (j) 36 <| ZE M 62 3 j <| ZX 63 .i64 g5 (j) 18 <| ZP64 M 4 j ((dT x y) j) fun u10 M => ?_
    refine nT <| rg_tail M 14 (by kernel_rfl) (by kernel_rfl) ?_
    simp only [List.take_succ_cons, List.take_zero]
    refine kR 2 <| eI 66 (16 + (j : Int)) ((16 + j : Nat) : Int) <| eX 67 .i64 g4 ((16 + j : Nat)) 36 <| eE M 68 3 ((16 + j : Nat)) <| kR 2 <| eI 71 (17 + (j : Int)) ((17 + j : Nat) : Int) <| eX 72 .i64 g4 ((17 + j : Nat)) 36 <| eE M 73 3 ((17 + j : Nat)) <| kR 3 <| eX 77 .i64 g6 (j) 18 <| kl_nil fun u11 M => ZP64 M 5 j (uo (sr ((dT x y) ((16 + j : Nat))) 2) (un (sl ((dT x y) ((17 + j : Nat))) 6) 255)) fun u12 M => pl_nil <| au_block <| au_then <| rg_lit ?_
    refine rV 1 <| ZI 58 ((j : Int) + 1) ((j + 1 : Nat) : Int) <| rV 1 <| nT ?_
    exact exS M
   ·intro a u0 hI
    obtain ⟨v4, rfl, M⟩ := hI
    refine wp_seq <| sR <| rV 1 <| ZF 56 (17 < 17) <| nT <| cF <| wp_exit <| au_then_exit <| au_then_exit <| au_block_exit <| au_then <| sR <| rV 1 <| ZE M 79 4 16 <| rV 2 <| ZP64 M 4 16 (un ((dlo (dT x y) 17) 16) 3) fun u13 M => ?_
    refine nT <| wp_seq <| sq <| wp_block ?_
    refine au_loop (fun j a w' => ∃ v5 : NV, a = (fm ([.agg (av 18 (w64 x)), .agg (av 18 (w64 y)), pJ g1, pJ g2, pJ g3, pJ g4, .int .i64 (18 : Int), v5 7, .int .u64 (cy 8 (tp 18 x y 18) 36), .int .i64 (36 : Int), v5 10, pJ g5, pJ g6, .int .i64 (17 : Int), .int .i64 (j : Int)] ++ vr v5 15 83)) ∧ Mem ⟨w, []⟩ [⟨g1, .cells (av 18 (w64 x)) 204⟩, ⟨g2, .cells (av 18 (w64 y)) 204⟩, ⟨g3, .cells (av 18 (w64 (fun _ => 0))) 204⟩, ⟨g4, .cells (av 36 (w64 (dT x y))) 233⟩, ⟨g5, .cells (av 18 (w64 (dl3 (dT x y) j))) 204⟩, ⟨g6, .cells (av 18 (w64 (dhi (dT x y) 17))) 204⟩] w') 18 (exS M) ?_ ?_
    ·intro j a u0 hj hI
     obtain ⟨v5, rfl, M⟩ := hI
     refine wp_seq <| sR <| rV 1 <| ZT 83 ((j : Int) < 18) <| nT <| cT <| wp_skip <| au_then <| wp_seq <| wp_block <| rg_tail M 10 (by kernel_rfl) (by kernel_rfl) ?_
     simp only [List.take_succ_cons, List.take_zero]
     refine kR 2 <| eX 88 .i64 g5 (j) 18 <| eE M 89 4 j <| kR 1 <| eX 91 .i64 g6 (j) 18 <| eE M 92 5 j <| kR 2 <| eX 95 .i64 g5 (j) 18 <| kl_nil fun u14 M => ZP64 M 4 j (ua ((dl3 (dT x y) j) j) (um 5 ((dhi (dT x y) 17) j))) fun u15 M => pl_nil <| au_block <| au_then <| rg_lit <| rV 1 <| ZI 85 ((j : Int) + 1) ((j + 1 : Nat) : Int) ?_
     refine rV 1 <| nT ?_
     exact exS M
    ·intro a u0 hI
     obtain ⟨v5, rfl, M⟩ := hI
     refine wp_seq <| sR <| rV 1 <| ZF 83 (18 < 18) <| nT <| cF <| wp_exit <| au_then_exit <| au_then_exit <| au_block_exit <| au_then <| sR <| pA M 96 4 18 (w64 (dl3 (dT x y) 18)) <| ZC M 97 (fun w M => d_carry (dl3 (dT x y) 18) w M.laid) fun u16 M => ZG M 2 18 (w64 (dcF (dl3 (dT x y) 18))) fun u17 M => nT ?_
     refine wp_ret ?_
     exact bc Tryz.results148 M 2 18 (w64 (dcF (dl3 (dT x y) 18))) ⟨rfl, below_grown M.old⟩
def dg (a : NI) : Nat → Int := upd (dcF a) 0 (ua (dcF a 0) 5)
def dG (a : NI) : Nat → Int := st 255 8 (dg a) 18
def dwF (a : NI) : Nat → Int := if 4 ≤ dG a 16 then upd (dG a) 16 (un (dG a 16) 3) else dcF a
theorem d_wholeA (x : NI) (h : 4 ≤ dG x 16) (w : World) (hL : Laid w)  : Cs 150 #[.agg (av 18 (w64 x))] w (.agg (av 18 (w64 (upd (dG x) 16 (un ((dG x) 16) 3))))) := by
 go_enter Tryz.func150, Tryz.ntmps150
 have M := Mem.start hL
 refine sR <| pN M 1 (.cells (av 18 (w64 x)) 204) fun g1 u1 M => pN M 2 (.cells (av 18 (w64 (fun _ => 0))) 204) fun g2 u2 M => nT <| sR <| pA M 7 0 18 (w64 x) <| ZC M 8 (fun w M => d_carry x w M.laid) fun u3 M => ZG M 0 18 (w64 (dcF x)) fun u4 M => nT <| sR <| pA M 9 0 18 (w64 (dcF x)) <| pN M 3 (.cells (av 18 (w64 (fun _ => 0))) 204) fun g3 u5 M => ZG M 2 18 (w64 (dcF x)) fun u6 M => nT <| sR <| rV 1 ?_
 refine ZE M 11 2 0 <| rV 2 <| ZP64 M 2 0 (ua ((dcF x) 0) 5) fun u7 M => nT <| sq <| wp_seq <| sq <| wp_block ?_
 refine au_loop (fun j a w' => ∃ v1 : NV, a = (fm ([.agg (av 18 (w64 x)), pJ g1, pJ g2, pJ g3, .int .u64 (cy 8 (dg x) j), .int .i64 (j : Int)] ++ vr v1 6 32)) ∧ Mem ⟨w, []⟩ [⟨g1, .cells (av 18 (w64 (dcF x))) 204⟩, ⟨g2, .cells (av 18 (w64 (fun _ => 0))) 204⟩, ⟨g3, .cells (av 18 (w64 (st 255 8 (dg x) j))) 204⟩] w') 18 (exS M) ?_ ?_
 ·intro j a u0 hj hI
  obtain ⟨v1, rfl, M⟩ := hI
  refine wp_seq <| sR <| rV 1 <| ZT 15 ((j : Int) < 18) <| nT <| cT <| wp_skip <| au_then <| wp_seq <| wp_block <| sR <| rV 1 <| ZX 19 .i64 g3 (j) 18 <| pE M 20 g3 j (.int .u64 ((dg x) j)) (fun w M => M.cell 2 rfl (by omega) (st_cell 255 8 (dg x) j)) <| rV 3 <| nT ?_
  refine sR <| rV 3 <| ZX 26 .i64 g3 (j) 18 <| ZP64 M 2 j (un (ua ((dg x) j) (cy 8 (dg x) j)) 255) fun u8 M => nT <| rg_lit <| rV 3 <| pl_nil <| au_block <| au_then <| rg_lit <| rV 1 <| ZI 17 ((j : Int) + 1) ((j + 1 : Nat) : Int) <| rV 1 <| nT ?_
  exact exS M
 ·intro a u0 hI
  obtain ⟨v1, rfl, M⟩ := hI
  refine wp_seq <| sR <| rV 1 <| ZF 15 (18 < 18) <| nT <| cF <| wp_exit <| au_then_exit <| au_then_exit <| au_block_exit <| au_then <| wp_seq <| sR <| rV 1 <| ZE M 30 2 16 <| wT 31 h ?_
  refine nT <| cT <| sR <| rV 1 <| ZE M 33 2 16 <| rV 2 <| ZP64 M 2 16 (un ((dG x) 16) 3) fun u9 M => ?_
  refine nT <| sR <| pA M 36 2 18 (w64 (upd (dG x) 16 (un ((dG x) 16) 3))) <| ZG M 1 18 (w64 (upd (dG x) 16 (un ((dG x) 16) 3))) fun u10 M => nT <| wp_ret <| au_then_ret ?_
  exact bc Tryz.results150 M 1 18 (w64 (upd (dG x) 16 (un ((dG x) 16) 3))) ⟨rfl, below_grown M.old⟩
theorem d_wholeB (x : NI) (h : ¬ 4 ≤ dG x 16) (w : World) (hL : Laid w)  : Cs 150 #[.agg (av 18 (w64 x))] w (.agg (av 18 (w64 (dcF x)))) := by
 go_enter Tryz.func150, Tryz.ntmps150
 have M := Mem.start hL
 refine sR <| pN M 1 (.cells (av 18 (w64 x)) 204) fun g1 u1 M => pN M 2 (.cells (av 18 (w64 (fun _ => 0))) 204) fun g2 u2 M => nT <| sR <| pA M 7 0 18 (w64 x) <| ZC M 8 (fun w M => d_carry x w M.laid) fun u3 M => ZG M 0 18 (w64 (dcF x)) fun u4 M => nT <| sR <| pA M 9 0 18 (w64 (dcF x)) <| pN M 3 (.cells (av 18 (w64 (fun _ => 0))) 204) fun g3 u5 M => ZG M 2 18 (w64 (dcF x)) fun u6 M => nT <| sR <| rV 1 ?_
 refine ZE M 11 2 0 <| rV 2 <| ZP64 M 2 0 (ua ((dcF x) 0) 5) fun u7 M => nT <| sq <| wp_seq <| sq <| wp_block ?_
 refine au_loop (fun j a w' => ∃ v1 : NV, a = (fm ([.agg (av 18 (w64 x)), pJ g1, pJ g2, pJ g3, .int .u64 (cy 8 (dg x) j), .int .i64 (j : Int)] ++ vr v1 6 32)) ∧ Mem ⟨w, []⟩ [⟨g1, .cells (av 18 (w64 (dcF x))) 204⟩, ⟨g2, .cells (av 18 (w64 (fun _ => 0))) 204⟩, ⟨g3, .cells (av 18 (w64 (st 255 8 (dg x) j))) 204⟩] w') 18 (exS M) ?_ ?_
 ·intro j a u0 hj hI
  obtain ⟨v1, rfl, M⟩ := hI
  refine wp_seq <| sR <| rV 1 <| ZT 15 ((j : Int) < 18) <| nT <| cT <| wp_skip <| au_then <| wp_seq <| wp_block <| sR <| rV 1 <| ZX 19 .i64 g3 (j) 18 <| pE M 20 g3 j (.int .u64 ((dg x) j)) (fun w M => M.cell 2 rfl (by omega) (st_cell 255 8 (dg x) j)) <| rV 3 <| nT ?_
  refine sR <| rV 3 <| ZX 26 .i64 g3 (j) 18 <| ZP64 M 2 j (un (ua ((dg x) j) (cy 8 (dg x) j)) 255) fun u8 M => nT <| rg_lit <| rV 3 <| pl_nil <| au_block <| au_then <| rg_lit <| rV 1 <| ZI 17 ((j : Int) + 1) ((j + 1 : Nat) : Int) <| rV 1 <| nT ?_
  exact exS M
 ·intro a u0 hI
  obtain ⟨v1, rfl, M⟩ := hI
  refine wp_seq <| sR <| rV 1 <| ZF 15 (18 < 18) <| nT <| cF <| wp_exit <| au_then_exit <| au_then_exit <| au_block_exit <| au_then <| wp_seq <| sR <| rV 1 <| ZE M 30 2 16 <| wF 31 h ?_
  refine nT <| cF <| wp_skip <| au_then <| sR <| pA M 37 0 18 (w64 (dcF x)) <| ZG M 1 18 (w64 (dcF x)) fun u9 M => nT <| wp_ret ?_
  exact bc Tryz.results150 M 1 18 (w64 (dcF x)) ⟨rfl, below_grown M.old⟩
theorem d_whole (x : NI) (w : World) (hL : Laid w) : Cs 150 #[.agg (av 18 (w64 x))] w (.agg (av 18 (w64 (dwF x)))) := by
 unfold dwF
 by_cases h : 4 ≤ dG x 16
 ·rw [if_pos h]
  exact d_wholeA x h w hL
 ·rw [if_neg h]
  exact d_wholeB x h w hL
open Go.RowKit
def rk (key : Yb) : Nat → (Nat → Int)
 | 0 => fun _ => 0
 | j + 1 => upd (rk key j) j (cv .u64 (bt key j))
def dm1 (p : NI) : Nat → Int := upd (upd (upd (upd p 3 (un (p 3) 15)) 7 (un (p 7) 15)) 11 (un (p 11) 15)) 15 (un (p 15) 15)
def dm2 (p : NI) : Nat → Int := upd (upd (upd p 4 (un (p 4) 252)) 8 (un (p 8) 252)) 12 (un (p 12) 252)
def drF (key : Yb) : Nat → Int := dm2 (dm1 (rk key 16))
def dpa (h : NI) (p : Yb) : Nat → (Nat → Int)
 | 0 => h
 | j + 1 => upd (dpa h p j) j (ua (dpa h p j j) (cv .u64 (bt p j)))
def dpp (h : NI) (p : Yb) : Nat → Int := upd (dpa h p p.size) p.size (ua (dpa h p p.size p.size) 1)
def dpc (s : Yb) (j : Nat) : ByteArray := s.extract (16 * j) (min (16 * j + 16) s.size)
def dnx (s : Yb) (r h : NI) (j : Nat) : Nat → Int := dtF (dcF (dpp h (dpc s j))) r
def dsm (s : Yb) (r : NI) : Nat → (Nat → Int)
 | 0 => fun _ => 0
 | j + 1 => dnx s r (dsm s r j) j
def dh (key s : Yb) : Nat → Int := dwF (dsm s (drF key) ((s.size + 15) / 16))
def dsg (key : Yb) (h : NI) : Nat → Int := fun i => ua (h i) (cv .u64 (bt key (16 + i)))
def dby (g : NI) (i : Nat) : Int := cv .u8 (ua (g i) (cy 8 g i))
def dbs (g : NI) : Nat → (Nat → Int)
 | 0 => fun _ => 0
 | j + 1 => upd (dbs g j) j (dby g j)
theorem dbs_at (g : NI) : ∀ n, ∀ i, i < n → dbs g n i = dby g i
 | 0, i, h => absurd h (by omega)
 | n + 1, i, h => by
  unfold dbs upd
  by_cases e : i = n
  ·rw [if_pos e, e]
  ·rw [if_neg e, dbs_at g n i (by omega)]
theorem dbs_map (g : NI) : (List.range 16).map (dbs g 16) = (List.range 16).map (dby g) := List.map_congr_left fun i hi => dbs_at g 16 i (List.mem_range.1 hi)
theorem dby_nn (g : NI) : ∀ y ∈ (List.range 16).map (dby g), 0 ≤ y ∧ y < 256 := fun y hy => by
 obtain ⟨i, _, rfl⟩ := List.mem_map.1 hy
 exact cv8_nn _
def dtS (key s : Yb) : ByteArray := bs ((List.range 16).map (dby (dsg key (dh key s))))
theorem dpc_size (s : Yb) (j : Nat) : (dpc s j).size = min (16 * j + 16) s.size - 16 * j := by
 unfold dpc
 rw [ByteArray.size_extract]
 omega
theorem d_TagA (key s : Yb) (hk : key.size = 32) (hz : s.size ≤ 200000) (w : World) (hL : Laid w)  : Cs 109 #[.string key, .string s] w (.tuple #[.string (dtS key s), .int .i64 0]) := by
 go_enter Tryz.func109, Tryz.ntmps109
 have M := Mem.start hL
 refine sq <| wp_seq <| sR <| rV 2 <| ZD 20 ((key.size : Int) = 32) <| nT <| cF <| wp_skip <| au_then <| sR <| pN M 6 (.cells (av 18 (w64 (fun _ => 0))) 204) fun g1 u1 M => nT <| wp_seq <| sq <| wp_block ?_
 refine au_loop (fun j a w' => ∃ v1 : NV, a = (fm ([.string key, .string s] ++ vr v1 2 2 ++ [.string ⟨#[]⟩, .int .i64 0, pJ g1, .int .i64 (j : Int)] ++ vr v1 8 110)) ∧ Mem ⟨w, []⟩ [⟨g1, .cells (av 18 (w64 (rk key j))) 204⟩] w') 16 (exS M) ?_ ?_
 ·intro j a u0 hj hI
  obtain ⟨v1, rfl, M⟩ := hI
  refine wp_seq <| sR <| rV 1 <| ZT 22 ((j : Int) < 16) <| nT <| cT <| wp_skip <| au_then <| wp_seq <| wp_block <| rg_lit <| rV 3 <| pH 28 (.int .u8 (bt key j)) (run_ixS 9 Tryz.underlying9 _ _ rfl key (by kernel_rfl) .i64 j (by kernel_rfl) (by omega)) <| rV 1 <| ZX 30 .i64 g1 (j) 18 <| ZP64 M 0 j (cv .u64 (bt key j)) fun u2 M => ?_
  refine pl_nil <| au_block <| au_then <| rg_lit <| rV 1 <| ZI 24 ((j : Int) + 1) ((j + 1 : Nat) : Int) <| rV 1 <| nT ?_
  exact exS M
 ·intro a u0 hI
  obtain ⟨v1, rfl, M⟩ := hI
  refine wp_seq <| sR <| rV 1 <| ZF 22 (16 < 16) <| nT <| cF <| wp_exit <| au_then_exit <| au_then_exit <| au_block_exit <| au_then <| wp_seq <| sq <| wp_block <| wp_loop_rounds 5 ?_
  refine rounds_go <| wp_seq <| sq <| cT <| wp_skip <| au_then <| wp_seq <| wp_block <| rg_lit <| rV 3 <| ZE M 38 0 3 <| rV 2 <| ZP64 M 0 3 (un ((rk key 16) 3) 15) fun u3 M => pl_nil <| au_block <| au_then ?_
  refine rg_lit <| rV 3 <| nT <| rounds_go <| wp_seq <| sq <| cT <| wp_skip <| au_then <| wp_seq <| wp_block <| rg_lit <| rV 3 <| ZE M 38 0 7 <| rV 2 <| ZP64 M 0 7 (un ((rk key 16) 7) 15) fun u4 M => ?_
  refine pl_nil <| au_block <| au_then <| rg_lit <| rV 3 <| nT <| rounds_go <| wp_seq <| sq <| cT <| wp_skip <| au_then <| wp_seq <| wp_block <| rg_lit <| rV 3 ?_
  refine ZE M 38 0 11 <| rV 2 <| ZP64 M 0 11 (un ((rk key 16) 11) 15) fun u5 M => pl_nil <| au_block <| au_then <| rg_lit <| rV 3 <| nT <| rounds_go <| wp_seq <| sq <| cT <| wp_skip <| au_then <| wp_seq ?_
  refine wp_block <| rg_lit <| rV 3 <| ZE M 38 0 15 <| rV 2 <| ZP64 M 0 15 (un ((rk key 16) 15) 15) fun u6 M => pl_nil <| au_block <| au_then <| rg_lit <| rV 3 <| nT <| rounds_go <| wp_seq <| sq <| cF ?_
  refine wp_exit <| au_then_exit <| au_then_exit <| au_block_exit <| au_then <| wp_seq <| sR <| rV 1 <| nT <| wp_block <| wp_loop_rounds 4 ?_
  refine rounds_go <| wp_seq <| sq <| cT <| wp_skip <| au_then <| wp_seq <| wp_block <| rg_lit <| rV 3 <| ZE M 48 0 4 <| rV 2 <| ZP64 M 0 4 (un ((dm1 (rk key 16)) 4) 252) fun u7 M => pl_nil <| au_block <| au_then ?_
  refine rg_lit <| rV 3 <| nT <| rounds_go <| wp_seq <| sq <| cT <| wp_skip <| au_then <| wp_seq <| wp_block <| rg_lit <| rV 3 <| ZE M 48 0 8 <| rV 2 <| ZP64 M 0 8 (un ((dm1 (rk key 16)) 8) 252) fun u8 M => ?_
  refine pl_nil <| au_block <| au_then <| rg_lit <| rV 3 <| nT <| rounds_go <| wp_seq <| sq <| cT <| wp_skip <| au_then <| wp_seq <| wp_block <| rg_lit <| rV 3 ?_
  refine ZE M 48 0 12 <| rV 2 <| ZP64 M 0 12 (un ((dm1 (rk key 16)) 12) 252) fun u9 M => pl_nil <| au_block <| au_then <| rg_lit <| rV 3 <| nT <| rounds_go <| wp_seq <| sq <| cF <| wp_exit <| au_then_exit <| au_then_exit ?_
  refine au_block_exit <| au_then <| sR <| pN M 10 (.cells (av 18 (w64 (fun _ => 0))) 204) fun g2 u10 M => nT <| wp_seq <| sq <| wp_block ?_
  refine au_loop (fun i a w' => ∃ v2 : NV, a = (fm ([.string key, .string s] ++ vr v2 2 2 ++ [.string ⟨#[]⟩, .int .i64 0, pJ g1, .int .i64 (16 : Int), .int .i64 19, .int .i64 16, pJ g2, .int .i64 ((16 * i : Nat) : Int)] ++ vr v2 12 106)) ∧ Mem ⟨w, []⟩ [⟨g1, .cells (av 18 (w64 (drF key))) 204⟩, ⟨g2, .cells (av 18 (w64 (dsm s (drF key) i))) 204⟩] w') ((s.size + 15) / 16) (exS M) ?_ ?_
  ·intro i a u0 hi hI
   obtain ⟨v2, rfl, M⟩ := hI
   refine wp_seq <| sR <| rV 3 <| ZT 54 (((16 * i : Nat) : Int) < ((s.size : Nat) : Int)) <| nT <| cT <| wp_skip <| au_then <| wp_seq <| wp_block <| sR <| rV 3 <| ZI 60 (((16 * i : Nat) : Int) + 16) ((16 * i + 16 : Nat) : Int) <| rV 2 <| zJ 63 (.int .i64 ((min (16 * i + 16) s.size : Nat) : Int)) (.int .i64 (if ((s.size : Nat) : Int) < ((16 * i + 16 : Nat) : Int) then ((s.size : Nat) : Int) else ((16 * i + 16 : Nat) : Int))) (by rw [min_if (16 * i + 16) s.size]) <| pH 64 (.string (dpc s i)) (run_strlh 9 Tryz.underlying9 _ _ _ rfl s (by kernel_rfl) .i64 .i64 (16 * i) (min (16 * i + 16) s.size) (by kernel_rfl) (by kernel_rfl) (by omega) (by omega)) ?_
   refine rV 1 <| nT <| wp_seq <| sq <| wp_block ?_
   have hps := dpc_size s i
   obtain ⟨n, hn⟩ : ∃ n, n = (dpc s i).size := ⟨_, rfl⟩
   refine au_loop (fun j a w' => ∃ v3 : NV, a = (fm ([.string key, .string s] ++ vr v3 2 2 ++ [.string ⟨#[]⟩, .int .i64 0, pJ g1, .int .i64 (16 : Int), .int .i64 19, .int .i64 16, pJ g2, .int .i64 ((16 * i : Nat) : Int), .string (dpc s i), .int .i64 (j : Int)] ++ vr v3 14 104)) ∧ Mem ⟨w, []⟩ [⟨g1, .cells (av 18 (w64 (drF key))) 204⟩, ⟨g2, .cells (av 18 (w64 (dpa (dsm s (drF key) i) (dpc s i) j))) 204⟩] w') (dpc s i).size (exS M) ?_ ?_
   ·intro j a u0 hj hI
    obtain ⟨v3, rfl, M⟩ := hI
    refine wp_seq <| sR <| rV 3 <| ZT 68 ((j : Int) < ((dpc s i).size : Int)) <| nT <| cT <| wp_skip <| au_then <| wp_seq <| wp_block <| rg_tail M 10 (by kernel_rfl) (by kernel_rfl) ?_
    simp only [List.take_succ_cons, List.take_zero]
    refine kR 2 <| eX 73 .i64 g2 (j) 18 <| eE M 74 1 j <| kR 2 <| kH 77 (.int .u8 (bt (dpc s i) j)) (run_ixS 9 Tryz.underlying9 _ _ rfl (dpc s i) (by kernel_rfl) .i64 j (by kernel_rfl) (hj)) <| kR 2 <| eX 80 .i64 g2 (j) 18 <| kl_nil fun u11 M => ZP64 M 1 j (ua ((dpa (dsm s (drF key) i) (dpc s i) j) j) (cv .u64 (bt (dpc s i) j))) fun u12 M => pl_nil <| au_block <| au_then <| rg_lit <| rV 1 <| ZI 70 ((j : Int) + 1) ((j + 1 : Nat) : Int) <| rV 1 ?_
    refine nT ?_
    exact exS M
   ·intro a u0 hI
    obtain ⟨v3, rfl, M⟩ := hI
    refine wp_seq <| sR <| rV 3 <| ZF 68 (((dpc s i).size : Int) < ((dpc s i).size : Int)) <| nT <| cF <| wp_exit <| au_then_exit <| au_then_exit <| au_block_exit <| au_then <| sR <| rV 2 <| pH 83 (.pointer (some ⟨g2, (dpc s i).size, none⟩)) (run_ix1 204 18 86 Tryz.underlying204 inz86 _ _ rfl g2 (by kernel_rfl) .i64 (dpc s i).size (by kernel_rfl) (by omega)) <| pl_cell M (want_no rfl) (some 84) rfl 86 _ rfl g2 (dpc s i).size (by kernel_rfl) (.int .u64 ((dpa (dsm s (drF key) i) (dpc s i) (dpc s i).size) (dpc s i).size)) (fun _ => by kernel_rfl) (fun w M => M.cell 1 rfl (by omega) rfl) <| rV 1 ?_
    refine pH 86 (.pointer (some ⟨g2, (dpc s i).size, none⟩)) (run_ix1 204 18 86 Tryz.underlying204 inz86 _ _ rfl g2 (by kernel_rfl) .i64 (dpc s i).size (by kernel_rfl) (by omega)) <| pl_put1 M (want_no rfl) rfl 86 _ _ rfl 1 g2 (dpc s i).size (by kernel_rfl) 18 204 (w64 (dpa (dsm s (drF key) i) (dpc s i) (dpc s i).size)) rfl (.int .u64 (ua ((dpa (dsm s (drF key) i) (dpc s i) (dpc s i).size) (dpc s i).size) 1)) (w64 (upd (dpa (dsm s (drF key) i) (dpc s i) (dpc s i).size) (dpc s i).size (ua ((dpa (dsm s (drF key) i) (dpc s i) (dpc s i).size) (dpc s i).size) 1))) (by kernel_rfl) inz86 (by omega) rfl rfl (fun j _ => put_w64 _ _ _ j) fun u13 M => nT <| rg_tail M 4 (by kernel_rfl) (by kernel_rfl) ?_
    simp only [List.take_succ_cons, List.take_zero]
    refine kA M 87 1 18 (w64 (dpp (dsm s (drF key) i) (dpc s i))) <| kC M 88 149 #[.agg (av 18 (w64 (dpp (dsm s (drF key) i) (dpc s i))))] (.agg (av 18 (w64 (dcF (dpp (dsm s (drF key) i) (dpc s i)))))) (fun w M => d_carry _ w M.laid) <| kA M 89 0 18 (w64 (drF key)) <| kC M 90 148 #[.agg (av 18 (w64 (dcF (dpp (dsm s (drF key) i) (dpc s i))))), .agg (av 18 (w64 (drF key)))] (.agg (av 18 (w64 (dnx s (drF key) (dsm s (drF key) i) i)))) (fun w M => d_times _ _ w M.laid) <| kl_nil fun u14 M => ZG M 1 18 (w64 (dnx s (drF key) (dsm s (drF key) i) i)) fun u15 M => pl_nil <| au_block <| au_then <| rg_lit <| rV 1 <| ZI 56 (((16 * i : Nat) : Int) + 16) ((16 * (i + 1) : Nat) : Int) <| rV 1 <| nT ?_
    exact exS M
  ·intro a u0 hI
   obtain ⟨v2, rfl, M⟩ := hI
   refine wp_seq <| sR <| rV 3 <| ZF 54 (((16 * ((s.size + 15) / 16) : Nat) : Int) < ((s.size : Nat) : Int)) <| nT <| cF <| wp_exit <| au_then_exit <| au_then_exit <| au_block_exit <| au_then <| sR <| pA M 91 1 18 (w64 (dsm s (drF key) ((s.size + 15) / 16))) <| pC M 92 150 #[.agg (av 18 (w64 (dsm s (drF key) ((s.size + 15) / 16))))] (.agg (av 18 (w64 (dh key s)))) (fun w M => d_whole _ w M.laid) fun u16 M => ZG M 1 18 (w64 (dh key s)) fun u17 M => nT ?_
   refine sq <| sR <| ZM M 93 (fun g3 => .slice (some ⟨g3, 0, none⟩) 16 16) (.cells (av 16 (w8 (dbs (dsg key (dh key s)) 0))) 5) fun g3 u18 M => rV 1 <| nT <| wp_seq <| sq <| wp_block ?_
   refine au_loop (fun j a w' => ∃ v4 : NV, a = (fm ([.string key, .string s] ++ vr v4 2 2 ++ [.string ⟨#[]⟩, .int .i64 0, pJ g1, .int .i64 (16 : Int), .int .i64 19, .int .i64 16, pJ g2, .int .i64 ((16 * ((s.size + 15) / 16) : Nat) : Int)] ++ vr v4 12 2 ++ [.int .u64 (cy 8 (dsg key (dh key s)) j), .slice (some ⟨g3, 0, none⟩) 16 16, .int .i64 (j : Int)] ++ vr v4 17 101)) ∧ Mem ⟨w, []⟩ [⟨g1, .cells (av 18 (w64 (drF key))) 204⟩, ⟨g2, .cells (av 18 (w64 (dh key s))) 204⟩, ⟨g3, .cells (av 16 (w8 (dbs (dsg key (dh key s)) j))) 5⟩] w') 16 (exS M) ?_ ?_
   ·intro j a u0 hj hI
    obtain ⟨v4, rfl, M⟩ := hI
    refine wp_seq <| sR <| rV 1 <| ZT 95 ((j : Int) < 16) <| nT <| cT <| wp_skip <| au_then <| wp_seq <| wp_block <| wp_seq <| rg_tail M 11 (by kernel_rfl) (by kernel_rfl) ?_
    simp only [List.take_succ_cons, List.take_zero]
    refine kR 1 <| eX 99 .i64 g2 (j) 18 <| eE M 100 1 j <| kR 2 <| eI 103 (16 + (j : Int)) ((16 + j : Nat) : Int) <| kH 104 (.int .u8 (bt key (16 + j))) (run_ixS 9 Tryz.underlying9 _ _ rfl key (by kernel_rfl) .i64 (16 + j) (by kernel_rfl) (by omega)) <| kR 4 <| kl_nil fun u19 M => rV 1 <| nT <| sR <| rV 4 <| pH 113 (pJ g3 j) (run_ix0 61 5 Tryz.underlying61 inz5 _ _ rfl g3 16 16 (by kernel_rfl) .i64 j (by kernel_rfl) hj) <| ZP8 M 2 j (cv .u8 (ua (ua ((dh key s) j) (cv .u64 (bt key (16 + j)))) (cy 8 (dsg key (dh key s)) j))) fun u20 M => nT <| rg_lit ?_
    refine rV 3 <| pl_nil <| au_block <| au_then <| rg_lit <| rV 1 <| ZI 97 ((j : Int) + 1) ((j + 1 : Nat) : Int) <| rV 1 <| nT ?_
    exact exS M
   ·intro a u0 hI
    obtain ⟨v4, rfl, M⟩ := hI
    refine wp_seq <| sR <| rV 1 <| ZF 95 (16 < 16) <| nT <| cF <| wp_exit <| au_then_exit <| au_then_exit <| au_block_exit <| au_then <| sR <| rV 1 <| pl_back M (want_no rfl) (some 117) rfl _ rfl 2 g3 16 16 (by kernel_rfl) _ rfl ((List.range 16).map (dbs (dsg key (dh key s)) 16)) 16 (sb_av 16 _ _) (by simp) (by rw [dbs_map]; exact dby_nn _) ?_
    rw [dbs_map]
    refine rV 2 <| nT <| wp_ret ?_
    exact b1 M
open Go.RowKit
section
variable {P : Program} {ops : Array Oper} {rest : List Oper} {o : Oper} {a : Act} {w : World} {Q : Exit → Act → World → Prop} {K : Act → World → Prop} {n : Nat} {ro : Option Nat}
def rdPost (lp : Nat) (d : Option Tmp) (a : Act) (K : Act → World → Prop) : Exit → Act → World → Prop
 | .normal, _, u => ∃ r, u.heap[lp]? = some (.loop r) ∧ K (a.put d (.bool true)) (u.putObj lp (.loop { r with state := .ready, pending := none }))
 | _, _, _ => False
theorem pl_yield (lp : Nat) (r : Loop) (args : Array Value) (hl : w.heap[lp]? = some (.loop r)) (hs : args.size = r.params.size) (hst : r.state = .ready) (hd : ndB o = true) (hrun : ∀ w, (execOp a.eval o).run P w = (Instr.yield lp args).run P w) (hw : Region.wanted o (yielded ops a.tmps) = true)
  (h : r.assign.wpIn (FW (some lp)) 0 P (Exit.then (fun a1 w1 => w1.heap[lp]? = some (.loop r) ∧ r.body.wpIn (FW (some lp)) 0 P (rdPost lp o.dst a (wpListIn (FW none) 0 P ops Q rest)) a1 (w1.putObj lp (.loop { r with state := .busy }))) (fun _ _ _ => False)) { tmps := (r.params.zip args).foldl (fun t (p, v) => t.setIfInBounds p v) r.tmps, defers := [] } w) :
  wpListIn (FW none) 0 P ops Q (o :: rest) a w := by
 unfold wpListIn
 rw [if_pos hw]
 refine ⟨fun _ _ => trivial, ?_⟩
 rw [Oper.semAt_eq _ _ _ (nd_of hd), hrun, run_yield hl hs, Oper.uponIn_round]
 refine ⟨fun e => by simp [FW, Fence.wide] at e, ?_⟩
 refine roundIn_of_wpIn (F := FW none) trivial <| wpIn_mono h ?_
 rintro e a1 w1 hq
 cases e with
 | normal =>
  obtain ⟨h1, h2⟩ := hq
  refine ⟨_, run_beginRound h1 hst, ?_⟩
  refine wpIn_mono h2 ?_
  rintro e a2 w2 hq
  cases e with
  | normal =>
   obtain ⟨r2, h3, h4⟩ := hq
   exact ⟨_, _, run_endRound none h3, h4⟩
  | ret => exact hq.elim
  | exit i => exact hq.elim
  | goto i => exact hq.elim
  | panic c => exact hq.elim
  | outgrown => exact hq.elim
 | ret => exact hq.elim
 | exit i => exact hq.elim
 | goto i => exact hq.elim
 | panic c => exact hq.elim
 | outgrown => exact hq.elim
theorem in_list {l : List Oper} (hd : l.all ndB = true) (hQ : ∀ a w, ¬ Q .outgrown a w) (h : PL P ops Q l a w) : wpListIn (FW none) 0 P ops Q l a w := list_in l a w hd hQ h.out
end
theorem code_is {O : Option (Code × Code)} {c0 d0 sg bd : Code} (hO : O = some (c0, d0)) (hc : O = some (sg, bd)) {F : Fence} {n : Nat} {P : Program} {Q : Exit → Act → World → Prop} {a : Act} {w : World} (h : d0.wpIn F n P Q a w) : bd.wpIn F n P Q a w := by
 rw [hO] at hc
 cases hc
 exact h
theorem code_is1 {O : Option (Code × Code)} {c0 d0 sg bd : Code} (hO : O = some (c0, d0)) (hc : O = some (sg, bd)) {F : Fence} {n : Nat} {P : Program} {Q : Exit → Act → World → Prop} {a : Act} {w : World} (h : c0.wpIn F n P Q a w) : sg.wpIn F n P Q a w := by
 rw [hO] at hc
 cases hc
 exact h
section
variable {P : Program} {ops : Array Oper} {rest : List Oper} {o : Oper} {a : Act} {w : World} {c : Ctx} {L : List Blk} {Q : Exit → Act → World → Prop}
theorem pl_calltwo (M : Mem c L w) (hw : Region.wanted o (yielded ops a.tmps) = true) (d : Option Tmp) (hd : o.dst = d) (f : FuncId) (args : Array Value) (v : Nat → Nat → Value) (Z Y : Obj) (hrun : ∀ w, (execOp a.eval o).run P w = .ok (.enter f args) w)
  (hc : ∀ w, Mem c L w → Calls P f args w fun e w' => ∃ g k, e = .returned (v g k) ∧ Mem ⟨w, []⟩ [⟨g, Z⟩, ⟨k, Y⟩] w') (h : ∀ g k w', Mem c (L ++ [⟨g, Z⟩, ⟨k, Y⟩]) w' → PL P ops Q rest (a.put d (v g k)) w') : PL P ops Q (o :: rest) a w :=
 pl_callq hw d hd f args hrun ((hc w M).mono fun _ w' ⟨g, k, he, M'⟩ => ⟨v g k, he, h g k w' (M.news (below_grown M'.old) M'.at_ (fun b hb => (M'.ge b hb).elim id fun h => by cases h) M'.nodup)⟩)
theorem _root_.Go.Proofs.YtffimigpbcilbaaGreatDoor.Mem.putO (M : Mem c L w) (i g : Nat) (Z Z' : Obj) (hi : L[i]? = some ⟨g, Z⟩) : Mem c (L.set i ⟨g, Z'⟩) (w.putObj g Z') :=
 M.put i ⟨g, Z⟩ hi Z' ⟨rfl, rfl, rfl, by simp, fun j _ hj => World.putObj_heap_other (by simpa using hj)⟩ (World.putObj_heap_same (Array.getElem?_eq_some_iff.1 (M.get i hi)).1)
theorem _root_.Go.Proofs.YtffimigpbcilbaaGreatDoor.Mem.alloc2 (M : Mem c L w) (Z1 Z2 : Obj) : Mem c (L ++ [⟨w.heap.size, Z1⟩, ⟨w.heap.size + 1, Z2⟩]) ((w.alloc Z1).alloc Z2) := by
 have M1 := M.new w.heap.size Z1 (new_below w Z1) (heap_alloc_new w Z1) (Nat.le_refl _)
 have e : (w.alloc Z1).heap.size = w.heap.size + 1 := World.size_alloc _ _
 have M2 := M1.new (w.heap.size + 1) Z2 (new_below (w.alloc Z1) Z2) (by rw [← e]; exact heap_alloc_new (w.alloc Z1) Z2) (by rw [e]; exact Nat.le_refl _)
 rw [List.append_assoc] at M2
 exact M2
end
def pc (s : Yb) (off n : Nat) : Nat → Int := noF (mk (fun i => bt s (off + i)) n)
def nx (s : Yb) (r h : NI) (j : Nat) : Nat → Int := tmF (plF h (pc s (16 * j) (min 16 (s.size - 16 * j)))) r
def sm (s : Yb) (r : NI) : Nat → (Nat → Int)
 | 0 => fun _ => 0
 | j + 1 => nx s r (sm s r j) j
theorem piece_at (s : Yb) (off i : Nat) (h : off + i < s.size) : (vs8 (sb s))[off + i]? = some (w8 (fun i => bt s (off + i)) i) := by
 unfold vs8
 rw [List.getElem?_map, sb_get s _ h]
 rfl
theorem r_body (sg bd : Code) (hb : Tryz.f103.body.bind findRange = some (sg, bd)) (s : Yb) (r h : NI) (j : Nat) (hj : 16 * j < s.size) (gr gl gh gq cap lp : Nat) (Zl Zq : Obj) (hZ : SB Zq cap (vs8 (sb s))) (L0 : List Blk) (v : NV) (c : Ctx) (u : World) (R : Exit → Act → World → Prop) (hO : ∀ a w, ¬ R .outgrown a w) (hP : ∀ c a w, ¬ R (.panic c) a w)
  (M : Mem c (⟨gr, .cells (av 5 (w64 r)) 187⟩ :: ⟨gl, Zl⟩ :: ⟨gh, .cells (av 5 (w64 h)) 187⟩ :: ⟨gq, Zq⟩ :: L0) u)
  (hgo : ∀ a u', Mem c (⟨gr, .cells (av 5 (w64 r)) 187⟩ :: ⟨gl, Zl⟩ :: ⟨gh, .cells (av 5 (w64 (nx s r h j))) 187⟩ :: ⟨gq, Zq⟩ :: L0) u' → R .normal a u') :
  bd.wpIn (FW (some lp)) 0 Tryz.prog R (fm (vr v 0 6 ++ [pJ gr, v 7, pJ gh, .slice (some ⟨gq, (16 * j), none⟩) (min 16 (s.size - 16 * j)) (min 16 (s.size - 16 * j))] ++ vr v 10 24)) u := by
 refine code_is (O := Tryz.f103.body.bind findRange) rfl hb <| wpIn_block <| rr_held (by kernel_rfl) (fun _ _ h => hO _ _ h) M (⟨gr, .cells (av 5 (w64 r)) 187⟩ :: ⟨gl, Zl⟩ :: ⟨gh, .cells (av 5 (w64 h)) 187⟩ :: ⟨gq, Zq⟩ :: L0) 6 rfl (by kernel_rfl) (by kernel_rfl) (fun _ _ _ _ _ h => (hP _ _ _ h).elim) fun u1 M => hl_load M 0 rfl (by decide) (by kernel_rfl) (by kernel_rfl) (want_no rfl) (some 23) rfl 187 _ rfl 2 gh 0 (by kernel_rfl) 5 187 (w64 h) rfl 5 (w64 h) (fun j _ => by rw [Nat.zero_add]) (by decide) _ Tryz.underlying187 rfl inz187 <| qV M 1 24 (.slice (some ⟨gq, (16 * j), none⟩) (min 16 (s.size - 16 * j)) (min 16 (s.size - 16 * j))) <| hl_load M 4 rfl (by decide) (by kernel_rfl) (by kernel_rfl) (want_no rfl) (some 27) rfl 187 _ rfl 0 gr 0 (by kernel_rfl) 5 187 (w64 r) rfl 5 (w64 r) (fun j _ => by rw [Nat.zero_add]) (by decide) _ Tryz.underlying187 rfl inz187 <| qO 2 ?_
 refine ZC M 25 (fun w M => c_marked (fun i => bt s (16 * j + i)) (min 16 (s.size - 16 * j)) (by omega) gq (16 * j) (min 16 (s.size - 16 * j)) w M.laid (fun i hi => hZ.cell (M.get 3 rfl) (piece_at s (16 * j) i (by omega)))) fun u2 M => nT ?_
 refine ⟨M, ?_⟩
 refine qO 3 ?_
 refine pC M 26 137 #[.agg (av 5 (w64 h)), .agg (av 5 (w64 (pc s (16 * j) (min 16 (s.size - 16 * j)))))] (.agg (av 5 (w64 (plF h (pc s (16 * j) (min 16 (s.size - 16 * j))))))) (fun w M => c_plus h _ w M.laid) fun u3 M => nT ?_
 refine ⟨M, ?_⟩
 refine qO 5 ?_
 refine pC M 28 139 #[.agg (av 5 (w64 (plF h (pc s (16 * j) (min 16 (s.size - 16 * j)))))), .agg (av 5 (w64 r))] (.agg (av 5 (w64 (nx s r h j)))) (fun w M => c_times _ r w M.laid) fun u4 M => nT ?_
 refine ⟨M, ?_⟩
 refine qZ ?_
 refine ZG M 2 5 (w64 (nx s r h j)) fun u5 M => nT <| au_block ?_
 exact hgo _ _ M
theorem c_chunk (gq n cap : Nat) (w : World) (hL : Laid w) : Calls Tryz.prog 136 #[.slice (some ⟨gq, 0, none⟩) n cap, .int .i64 16] w fun r w' => ∃ g k, r = .returned (.func (.func 165) #[] #[pJ g, pJ k]) ∧ Mem ⟨w, []⟩ [⟨g, .cells (av 1 (fun _ => .slice (some ⟨gq, 0, none⟩) n cap)) 61⟩, ⟨k, .cells (av 1 (fun _ => .int .i64 16)) 3⟩] w' := by
 go_enter Tryz.func136, Tryz.ntmps136
 have M := Mem.start hL
 refine sR <| pN M 2 (.cells (av 1 (fun _ => .slice (some ⟨gq, 0, none⟩) n cap)) 61) fun g1 u1 M => pN M 3 (.cells (av 1 (fun _ => .int .i64 16)) 3) fun g2 u2 M => rV 1 <| nT <| wp_seq <| sR <| ZE M 5 1 0 <| rV 1 <| nT <| cF <| wp_skip <| au_then <| sq <| wp_ret ?_
 exact bX (.func (.func 165) #[] #[pJ g1, pJ g2]) ⟨g1, g2, rfl, M⟩
def lpr (st : LoopState) (pe : Option Code) (fn : FuncId) (T : Array Value) (sg bd : Code) (D : Nat) : Loop := { state := st, pending := pe, fn := fn, tmps := T, params := #[22], assign := sg, body := bd, defers := D }
def tF (gr gl gh : Nat) (v : NV) : Array Value := #[v 0, v 1, v 2, v 3, v 4, v 5, pJ gr, pJ gl, pJ gh, v 9, v 10, v 11, v 12, v 13, v 14, v 15, v 16, v 17, v 18, v 19, v 20, v 21, v 22, v 23, v 24, v 25, v 26, v 27, v 28, v 29, v 30, v 31, v 32, v 33]
theorem c_iter (sg bd : Code) (hb : Tryz.f103.body.bind findRange = some (sg, bd)) (s : Yb) (r : NI) (hz : s.size ≤ 200000) (gr gl gh gq gs gn lp D cap : Nat) (Zl Zq : Obj) (hZ : SB Zq cap (vs8 (sb s))) (hcap : s.size ≤ cap) (fn : FuncId) (v : NV) (c : Ctx) (u : World)
  (M : Mem c [⟨gr, .cells (av 5 (w64 r)) 187⟩, ⟨gl, Zl⟩, ⟨gh, .cells (av 5 (w64 (sm s r 0))) 187⟩, ⟨gq, Zq⟩, ⟨gs, .cells (av 1 (fun _ => .slice (some ⟨gq, 0, none⟩) s.size cap)) 61⟩, ⟨gn, .cells (av 1 (fun _ => .int .i64 16)) 3⟩, ⟨D, .deferred (some [])⟩, ⟨lp, .loop (lpr .ready none fn (tF gr gl gh v) sg bd D)⟩] u) : Calls Tryz.prog 165 #[.func (.yield lp) #[] #[], pJ gs, pJ gn] u fun e u' => (∃ v, e = .returned v) ∧ Mem c [⟨gr, .cells (av 5 (w64 r)) 187⟩, ⟨gl, Zl⟩, ⟨gh, .cells (av 5 (w64 (sm s r ((s.size + 15) / 16)))) 187⟩, ⟨gq, Zq⟩, ⟨gs, .cells (av 1 (fun _ => .slice (some ⟨gq, 0, none⟩) s.size cap)) 61⟩, ⟨gn, .cells (av 1 (fun _ => .int .i64 16)) 3⟩, ⟨D, .deferred (some [])⟩, ⟨lp, .loop (lpr .ready none fn (tF gr gl gh v) sg bd D)⟩] u' := by
 go_enter Tryz.func165, Tryz.ntmps165
 refine sq <| wp_block ?_
 obtain ⟨N, hN⟩ : ∃ N, N = (s.size + 15) / 16 := ⟨_, rfl⟩
 rw [← hN]
 refine au_loop (fun j a u => ∃ v1 : NV, a = (fm ([.func (.yield lp) #[] #[], pJ gs, pJ gn, undef, .int .i64 ((16 * j : Nat) : Int)] ++ vr v1 5 26)) ∧ Mem c [⟨gr, .cells (av 5 (w64 r)) 187⟩, ⟨gl, Zl⟩, ⟨gh, .cells (av 5 (w64 (sm s r j))) 187⟩, ⟨gq, Zq⟩, ⟨gs, .cells (av 1 (fun _ => .slice (some ⟨gq, 0, none⟩) s.size cap)) 61⟩, ⟨gn, .cells (av 1 (fun _ => .int .i64 16)) 3⟩, ⟨D, .deferred (some [])⟩, ⟨lp, .loop (lpr .ready none fn (tF gr gl gh v) sg bd D)⟩] u) N (exS M) ?_ ?_
 ·intro j a u0 hj hI
  clear M
  obtain ⟨v1, rfl, M⟩ := hI
  refine wp_seq <| sR <| rV 1 <| ZE M 7 4 0 <| rV 1 <| ZT 9 (((16 * j : Nat) : Int) < ((s.size : Nat) : Int)) <| nT <| cT <| wp_skip <| au_then <| wp_seq <| wp_block <| wp_seq <| rg_tail M 6 (by kernel_rfl) (by kernel_rfl) ?_
  simp only [List.take_succ_cons, List.take_zero]
  refine eE M 13 5 0 <| eE M 14 4 0 <| kR 1 <| kH 16 (.slice (some ⟨gq, (0 + 16 * j), none⟩) (s.size - 16 * j) (cap - 16 * j)) (run_slL 61 5 Tryz.underlying61 inz5 _ _ rfl gq 0 s.size cap (by kernel_rfl) .i64 (16 * j) (by kernel_rfl) (by omega) (by omega)) <| kR 1 <| kH 18 (.int .i64 ((min 16 (s.size - 16 * j) : Nat) : Int)) (fun w => Eq.trans (b := .ok (.value (.int .i64 (if ((s.size - 16 * j : Nat) : Int) < (16 : Int) then ((s.size - 16 * j : Nat) : Int) else (16 : Int)))) w) (by kernel_rfl) (by rw [show (if ((s.size - 16 * j : Nat) : Int) < (16 : Int) then ((s.size - 16 * j : Nat) : Int) else (16 : Int)) = ((min 16 (s.size - 16 * j) : Nat) : Int) from min_if 16 (s.size - 16 * j)])) <| kl_nil fun u1 M => rV 1 <| nT <| wp_seq <| rg_yieldN 10 (by kernel_rfl) (fun _ _ h => by obtain ⟨⟨_, e⟩, _⟩ := h; cases e) ?_
  simp only [List.take_succ_cons, List.take_zero, List.drop_succ_cons, List.drop_zero]
  refine rV 1 <| ZE M 20 4 0 <| rV 3 <| ZI 24 (((16 * j : Nat) : Int) + ((min 16 (s.size - 16 * j) : Nat) : Int)) ((16 * j + min 16 (s.size - 16 * j) : Nat) : Int) <| rV 2 <| ZI 27 (((16 * j : Nat) : Int) + ((min 16 (s.size - 16 * j) : Nat) : Int)) ((16 * j + min 16 (s.size - 16 * j) : Nat) : Int) <| pH 28 (.slice (some ⟨gq, (16 * j), none⟩) (min 16 (s.size - 16 * j)) (min 16 (s.size - 16 * j))) (fun w => Eq.trans (run_slM 61 5 Tryz.underlying61 inz5 _ _ _ _ rfl gq 0 s.size cap (by kernel_rfl) .i64 .i64 .i64 (16 * j) (16 * j + min 16 (s.size - 16 * j)) (by kernel_rfl) (by kernel_rfl) (by kernel_rfl) (by omega) (by omega) w) (by rw [Nat.zero_add, Nat.add_sub_cancel_left])) <| nT <| pl_yield lp (lpr .ready none fn (tF gr gl gh v) sg bd D) #[.slice (some ⟨gq, (16 * j), none⟩) (min 16 (s.size - 16 * j)) (min 16 (s.size - 16 * j))] (M.get 7 rfl) rfl rfl (by kernel_rfl) (fun _ => by kernel_rfl) (want_no rfl) <| code_is1 (O := Tryz.f103.body.bind findRange) rfl hb <| fr_is (b := (fm (vr v 0 6 ++ [pJ gr, pJ gl, pJ gh] ++ vr v 9 13 ++ [.slice (some ⟨gq, (16 * j), none⟩) (min 16 (s.size - 16 * j)) (min 16 (s.size - 16 * j))] ++ vr v 23 11))) (by kernel_rfl) <| rr_lit (by kernel_rfl) (fun _ _ h => h) <| rV 1 <| nT ?_
  refine ⟨M.get 7 rfl, ?_⟩
  have M2 := M.putO 7 lp _ (.loop { lpr .ready none fn (tF gr gl gh v) sg bd D with state := .busy }) rfl
  refine fr_is (b := (fm (vr v 0 6 ++ [pJ gr, pJ gl, pJ gh, .slice (some ⟨gq, (16 * j), none⟩) (min 16 (s.size - 16 * j)) (min 16 (s.size - 16 * j))] ++ vr v 10 12 ++ [.slice (some ⟨gq, (16 * j), none⟩) (min 16 (s.size - 16 * j)) (min 16 (s.size - 16 * j))] ++ vr v 23 11))) (by kernel_rfl) ?_
  refine r_body sg bd hb s r (sm s r j) j (by omega) gr gl gh gq cap lp Zl Zq hZ [⟨gs, .cells (av 1 (fun _ => .slice (some ⟨gq, 0, none⟩) s.size cap)) 61⟩, ⟨gn, .cells (av 1 (fun _ => .int .i64 16)) 3⟩, ⟨D, .deferred (some [])⟩, ⟨lp, .loop { lpr .ready none fn (tF gr gl gh v) sg bd D with state := .busy }⟩] (fun k_ => ([v 0, v 1, v 2, v 3, v 4, v 5, pJ gr, pJ gl, pJ gh, .slice (some ⟨gq, (16 * j), none⟩) (min 16 (s.size - 16 * j)) (min 16 (s.size - 16 * j)), v 10, v 11, v 12, v 13, v 14, v 15, v 16, v 17, v 18, v 19, v 20, v 21, .slice (some ⟨gq, (16 * j), none⟩) (min 16 (s.size - 16 * j)) (min 16 (s.size - 16 * j)), v 23, v 24, v 25, v 26, v 27, v 28, v 29, v 30, v 31, v 32, v 33] : List Value).getD (k_ - 0) undef) c _ _ (fun _ _ h => h) (fun _ _ _ h => h) M2 ?_
  intro a9 u9 M3
  refine ⟨lpr .busy none fn (tF gr gl gh v) sg bd D, M3.get 7 rfl, ?_⟩
  have M4 := M3.putO 7 lp _ (.loop { lpr .busy none fn (tF gr gl gh v) sg bd D with state := .ready, pending := none }) rfl
  generalize u9.putObj lp _ = u8 at M4 ⊢
  clear M
  have M : Mem c [⟨gr, .cells (av 5 (w64 r)) 187⟩, ⟨gl, Zl⟩, ⟨gh, .cells (av 5 (w64 (sm s r (j + 1)))) 187⟩, ⟨gq, Zq⟩, ⟨gs, .cells (av 1 (fun _ => .slice (some ⟨gq, 0, none⟩) s.size cap)) 61⟩, ⟨gn, .cells (av 1 (fun _ => .int .i64 16)) 3⟩, ⟨D, .deferred (some [])⟩, ⟨lp, .loop (lpr .ready none fn (tF gr gl gh v) sg bd D)⟩] u8 := M4
  refine in_list (by kernel_rfl) (fun _ _ h => by obtain ⟨⟨_, e⟩, _⟩ := h; cases e) <| rV 1 <| nT <| cF <| wp_skip <| au_block <| au_then <| rg_lit <| rV 1 <| ZE M 11 5 0 <| ZI 12 (((16 * j : Nat) : Int) + 16) ((16 * (j + 1) : Nat) : Int) <| rV 1 <| nT ?_
  exact exS M
 ·intro a u0 hI
  clear M
  obtain ⟨v1, rfl, M⟩ := hI
  refine wp_seq <| sR <| rV 1 <| ZE M 7 4 0 <| rV 1 <| ZF 9 (((16 * N : Nat) : Int) < ((s.size : Nat) : Int)) <| nT <| cF <| wp_exit <| au_then_exit <| au_then_exit <| au_block_exit ?_
  exact bodyPost_end (v := .tuple #[]) (results_none Tryz.results165 _ _) (by kernel_rfl) ⟨⟨_, rfl⟩, M⟩
open Go.RowKit
def rF (key : Yb) : Nat → Int := noF (fc2 (fc1 (pd (bt (key.extract 0 16)) 16)))
def lF (key : Yb) : Nat → Int := noF (pd (bt (key.extract 16 key.size)) 16)
def tgS (key s : Yb) : ByteArray := txS (plF (lsF (sm s (rF key) ((s.size + 15) / 16))) (lF key))
theorem c_iterT (sg bd : Code) (hb : Tryz.f103.body.bind findRange = some (sg, bd)) (s : Yb) (r : NI) (hz : s.size ≤ 200000) (gr gl gh gq gs gn lp D cap : Nat) (Zl Zq : Obj) (hZ : SB Zq cap (vs8 (sb s))) (hcap : s.size ≤ cap) (fn : FuncId) (v : NV) (T : Array Value) (hT : T = tF gr gl gh v) (c : Ctx) (u : World)
  (M : Mem c [⟨gr, .cells (av 5 (w64 r)) 187⟩, ⟨gl, Zl⟩, ⟨gh, .cells (av 5 (w64 (sm s r 0))) 187⟩, ⟨gq, Zq⟩, ⟨gs, .cells (av 1 (fun _ => .slice (some ⟨gq, 0, none⟩) s.size cap)) 61⟩, ⟨gn, .cells (av 1 (fun _ => .int .i64 16)) 3⟩, ⟨D, .deferred (some [])⟩, ⟨lp, .loop (lpr .ready none fn T sg bd D)⟩] u) : Calls Tryz.prog 165 #[.func (.yield lp) #[] #[], pJ gs, pJ gn] u fun e u' => (∃ v, e = .returned v) ∧ ∃ q : Loop, q.state ≠ .busy ∧ q.pending = none ∧ Mem c [⟨gr, .cells (av 5 (w64 r)) 187⟩, ⟨gl, Zl⟩, ⟨gh, .cells (av 5 (w64 (sm s r ((s.size + 15) / 16)))) 187⟩, ⟨gq, Zq⟩, ⟨gs, .cells (av 1 (fun _ => .slice (some ⟨gq, 0, none⟩) s.size cap)) 61⟩, ⟨gn, .cells (av 1 (fun _ => .int .i64 16)) 3⟩, ⟨D, .deferred (some [])⟩, ⟨lp, .loop q⟩] u' := by
 subst hT
 exact (c_iter sg bd hb s r hz gr gl gh gq gs gn lp D cap Zl Zq hZ hcap fn v c u M).mono fun e u' h => ⟨h.1, lpr .ready none fn (tF gr gl gh v) sg bd D, (show LoopState.ready ≠ LoopState.busy by decide), rfl, h.2⟩
theorem c_TagA (key s : Yb) (hk : key.size = 32) (hz : s.size ≤ 200000) (w : World) (hL : Laid w) : Cs 103 #[.string key, .string s] w (.tuple #[.string (tgS key s), .int .i64 0]) := by
 refine (callsIn_wide (n := 0)).1 (callsIn_of_wp_marks Tryz.func103 rfl trivial ?_)
 refine (wpIn_wide (n := 0)).2 <| fr_w (b := (fm ([.string key, .string s] ++ und 32))) (by kernel_rfl) ?_
 have M := Mem.start hL
 refine sq <| wp_seq <| sR <| rV 2 <| ZD 12 ((key.size : Int) = 32) <| nT <| cF <| wp_skip <| au_then <| wp_seq <| rg_allocs M 6 [(6, fun g => pJ g, (.cells (av 5 (w64 (fun _ => 0))) 187)), (7, fun g => pJ g, (.cells (av 5 (w64 (fun _ => 0))) 187))] (by kernel_rfl) (by kernel_rfl) (⟨rfl, rfl, fun _ _ => by kernel_rfl, ⟨rfl, rfl, fun _ _ => by kernel_rfl, trivial⟩⟩) (by decide) ?_
 simp only [List.take_succ_cons, List.take_zero]
 refine kR 1 <| kH 14 (.string (key.extract 0 16)) (run_strh 9 Tryz.underlying9 _ _ rfl key (by kernel_rfl) .i64 16 (by kernel_rfl) (by omega) _ rfl) <| kC M 15 134 #[.string (key.extract 0 16)] (.agg (av 5 (w64 (rF key)))) (fun w M => c_factor _ (by rw [ByteArray.size_extract]; omega) w M.laid) <| kR 1 <| kH 17 (.string (key.extract 16 key.size)) (run_strl 9 Tryz.underlying9 _ _ rfl key (by kernel_rfl) .i64 16 (by kernel_rfl) (by omega) _ rfl) <| kC M 18 135 #[.string (key.extract 16 key.size)] (.agg (av 5 (w64 (lF key)))) (fun w M => c_plain _ (by rw [ByteArray.size_extract]; omega) w M.laid) <| kl_nil fun u1 g1 g2 M => ZG M 0 5 (w64 (rF key)) fun u2 M => ZG M 1 5 (w64 (lF key)) fun u3 M => nT <| sR <| pN M 8 (.cells (av 5 (w64 (fun _ => 0))) 187) fun g3 u4 M => nT <| wp_seq <| sR <| rV 1 ?_
 refine pl_conv M (want_no rfl) (some 20) rfl _ rfl s (by kernel_rfl) ?_
 intro gq capq Zq u5 hZq M
 have hcap : s.size ≤ capq := by have := hZq.le; rwa [vs8_length, sb_length] at this
 refine pl_calltwo M (want_no rfl) (some 21) rfl 136 #[.slice (some ⟨gq, 0, none⟩) s.size capq, .int .i64 16] (fun g k => .func (.func 165) #[] #[pJ g, pJ k]) (.cells (av 1 (fun _ => .slice (some ⟨gq, 0, none⟩) s.size capq)) 61) (.cells (av 1 (fun _ => .int .i64 16)) 3) (fun _ => by kernel_rfl) (fun w M => c_chunk gq s.size capq w M.laid) ?_
 intro gs gn u6 M
 refine nT <| wp_block <| fr_w (b := (fm ([.string key, .string s, undef, undef, .string ⟨#[]⟩, .int .i64 0, pJ g1, pJ g2, pJ g3, undef, .string key, .int .i64 (key.size : Int), .bool false, .string key, .string (key.extract 0 16), .agg (av 5 (w64 (rF key))), .string key, .string (key.extract 16 key.size), .agg (av 5 (w64 (lF key))), .string s, .slice (some ⟨gq, 0, none⟩) s.size capq, .func (.func 165) #[] #[pJ gs, pJ gn]] ++ und 12))) (by kernel_rfl) <| wp_range (gf := 165) (lb := #[pJ gs, pJ gn]) rfl (enters_of Tryz.func165 (by kernel_rfl) rfl) ?_
 intro fn
 refine (c_iterT _ _ rfl s (rF key) hz g1 g2 g3 gq gs gn _ _ capq _ Zq hZq hcap fn (fun k_ => ([.string key, .string s, undef, undef, .string ⟨#[]⟩, .int .i64 0, pJ g1, pJ g2, pJ g3, undef, .string key, .int .i64 (key.size : Int), .bool false, .string key, .string (key.extract 0 16), .agg (av 5 (w64 (rF key))), .string key, .string (key.extract 16 key.size), .agg (av 5 (w64 (lF key))), .string s, .slice (some ⟨gq, 0, none⟩) s.size capq, .func (.func 165) #[] #[pJ gs, pJ gn], undef, undef, undef, undef, undef, undef, undef, undef, undef, undef, undef, undef] : List Value).getD (k_ - 0) undef) _ (by kernel_rfl) ⟨w, []⟩ _ (M.alloc2 _ _)).mono ?_
 rintro e w3 ⟨he, q, hr1, hr2, M2⟩
 refine ⟨he, q, M2.get 7 rfl, hr1, ?_⟩
 rw [hr2]
 have M3 := M2.putO 7 _ _ (.loop { q with state := .exhausted, pending := none }) rfl
 clear M M2
 have M := M3
 refine au_block <| au_then <| wp_seq <| rg_tail M 6 (by kernel_rfl) (by kernel_rfl) ?_
 simp only [List.take_succ_cons, List.take_zero]
 refine kA M 29 2 5 (w64 (sm s (rF key) ((s.size + 15) / 16))) <| kC M 30 140 #[.agg (av 5 (w64 (sm s (rF key) ((s.size + 15) / 16))))] (.agg (av 5 (w64 (lsF (sm s (rF key) ((s.size + 15) / 16)))))) (fun w M => c_least _ w M.laid) <| kA M 31 1 5 (w64 (lF key)) <| kC M 32 137 #[.agg (av 5 (w64 (lsF (sm s (rF key) ((s.size + 15) / 16))))), .agg (av 5 (w64 (lF key)))] (.agg (av 5 (w64 (plF (lsF (sm s (rF key) ((s.size + 15) / 16))) (lF key))))) (fun w M => c_plus _ _ w M.laid) <| kC M 33 141 #[.agg (av 5 (w64 (plF (lsF (sm s (rF key) ((s.size + 15) / 16))) (lF key))))] (.string (tgS key s)) (fun w M => c_text _ w M.laid) <| kR 1 <| kl_nil fun u7 M => rV 1 <| nT <| wp_ret ?_
 refine marks_ret (v := .tuple #[.string (tgS key s), .int .i64 0]) rfl (M.get 6 rfl) (fun w => results_tmp2 Tryz.results103 _ w _ _ (by kernel_rfl) (by kernel_rfl)) ⟨rfl, below_grown (M.putO 6 _ _ (.deferred none) rfl).old⟩
open Go.RowKit
theorem ua_eq (x y : Int) (h0 : 0 ≤ x + y) (h1 : x + y < 18446744073709551616) : ua x y = x + y := by
 unfold ua
 simp [IntKind.wrap, IntKind.signed, IntKind.bits]
 omega
theorem um_eq (x y : Int) (h0 : 0 ≤ x * y) (h1 : x * y < 18446744073709551616) : um x y = x * y := by
 unfold um
 simp [IntKind.wrap, IntKind.signed, IntKind.bits]
 omega
theorem sl_eq (x : Int) (n : Nat) (h0 : 0 ≤ x * 2 ^ n) (h1 : x * 2 ^ n < 18446744073709551616) : sl x n = x * 2 ^ n := by
 unfold sl
 simp [IntKind.wrap, IntKind.signed, IntKind.bits]
 omega
theorem sr_eq (x : Int) (n : Nat) : sr x n = x / 2 ^ n := by
 unfold sr
 rw [Int.fdiv_eq_ediv_of_nonneg x (Int.le_of_lt (Int.pow_pos (by decide)))]
theorem cv8_eq (x : Int) : cv .u8 x = x % 256 := by
 unfold cv
 simp [IntKind.wrap, IntKind.signed, IntKind.bits]
theorem cv64_eq (x : Int) (h0 : 0 ≤ x) (h1 : x < 18446744073709551616) : cv .u64 x = x := by
 unfold cv
 simp [IntKind.wrap, IntKind.signed, IntKind.bits]
 omega
theorem wrap_bv (b : BitVec 64) : IntKind.wrap .u64 (b.toNat : Int) = (b.toNat : Int) := by
 have := b.isLt
 simp [IntKind.wrap, IntKind.signed, IntKind.bits]
 omega
theorem bv_nat (n : Nat) (h : n < 18446744073709551616) : (BitVec.ofInt 64 (n : Int)).toNat = n := by
 rw [BitVec.toNat_ofInt]
 omega
theorem un_nat (n m : Nat) (hn : n < 18446744073709551616) (hm : m < 18446744073709551616) : un (n : Int) (m : Int) = ((n &&& m : Nat) : Int) := by
 unfold un
 rw [wrap_bv, BitVec.toNat_and, bv_nat n hn, bv_nat m hm]
theorem uo_nat (n m : Nat) (hn : n < 18446744073709551616) (hm : m < 18446744073709551616) : uo (n : Int) (m : Int) = ((n ||| m : Nat) : Int) := by
 unfold uo
 rw [wrap_bv, BitVec.toNat_or, bv_nat n hn, bv_nat m hm]
theorem un_low (k : Nat) (hk : k ≤ 63) (x : Int) (h0 : 0 ≤ x) (h1 : x < 18446744073709551616) : un x (((2 ^ k - 1 : Nat) : Nat) : Int) = x % ((2 ^ k : Nat) : Int) := by
 obtain ⟨n, rfl⟩ : ∃ n : Nat, x = (n : Int) := ⟨x.toNat, by omega⟩
 have hp : 2 ^ k ≤ 2 ^ 63 := Nat.pow_le_pow_right (by decide) hk
 rw [un_nat n _ (by omega) (by omega), Nat.and_two_pow_sub_one_eq_mod]
 omega
theorem un26 (x : Int) (h0 : 0 ≤ x) (h1 : x < 18446744073709551616) : un x 67108863 = x % 67108864 := un_low 26 (by decide) x h0 h1
theorem un8 (x : Int) (h0 : 0 ≤ x) (h1 : x < 18446744073709551616) : un x 255 = x % 256 := un_low 8 (by decide) x h0 h1
theorem un2 (x : Int) (h0 : 0 ≤ x) (h1 : x < 18446744073709551616) : un x 3 = x % 4 := un_low 2 (by decide) x h0 h1
theorem un4 (x : Int) (h0 : 0 ≤ x) (h1 : x < 18446744073709551616) : un x 15 = x % 16 := un_low 4 (by decide) x h0 h1
theorem uo_add (k : Nat) (x y : Int) (h0 : 0 ≤ x) (h1 : x < ((2 ^ k : Nat) : Int)) (h2 : 0 ≤ y) (h3 : x + y * ((2 ^ k : Nat) : Int) < 18446744073709551616) : uo x (y * ((2 ^ k : Nat) : Int)) = x + y * ((2 ^ k : Nat) : Int) := by
 obtain ⟨n, rfl⟩ : ∃ n : Nat, x = (n : Int) := ⟨x.toNat, by omega⟩
 obtain ⟨m, rfl⟩ : ∃ m : Nat, y = (m : Int) := ⟨y.toNat, by omega⟩
 have hn : n < 2 ^ k := by omega
 have e : ((m : Int) * ((2 ^ k : Nat) : Int)) = ((2 ^ k * m : Nat) : Int) := by rw [Nat.mul_comm, Int.natCast_mul]
 rw [e] at h3 ⊢
 rw [uo_nat n _ (by omega) (by omega), Nat.or_comm, ← Nat.two_pow_add_eq_or_of_lt hn]
 omega
def V (b : Int) : Nat → (Nat → Int) → Int
 | 0, _ => 0
 | n + 1, f => V b n f + f n * b ^ n
theorem V_congr (b : Int) : ∀ (n : Nat) (f g : NI), (∀ i, i < n → f i = g i) → V b n f = V b n g
 | 0, _, _, _ => rfl
 | n + 1, f, g, h => by
  unfold V
  rw [V_congr b n f g (fun i hi => h i (by omega)), h n (by omega)]
theorem V_upd (b : Int) : ∀ (n : Nat) (f : NI) (k : Nat) (x : Int), k < n → V b n (upd f k x) = V b n f + (x - f k) * b ^ k
 | 0, _, _, _, h => absurd h (by omega)
 | n + 1, f, k, x, h => by
  unfold V
  by_cases e : k = n
  ·subst e
   rw [V_congr b k (upd f k x) f (fun i hi => if_neg (by omega)), show upd f k x k = x from if_pos rfl, Int.sub_mul]
   omega
  ·rw [V_upd b n f k x (by omega), show upd f k x n = f n from if_neg (by omega)]
   omega
theorem V_add (b : Int) : ∀ (n : Nat) (f g : NI), V b n (fun i => f i + g i) = V b n f + V b n g
 | 0, _, _ => rfl
 | n + 1, f, g => by
  unfold V
  rw [V_add b n f g, Int.add_mul]
  omega
theorem V_mul (b c : Int) : ∀ (n : Nat) (f : NI), V b n (fun i => c * f i) = c * V b n f
 | 0, _ => by simp [V]
 | n + 1, f => by
  unfold V
  rw [V_mul b c n f, Int.mul_add, Int.mul_assoc]
theorem V_split (b : Int) (n : Nat) : ∀ (m : Nat) (f : NI), V b (n + m) f = V b n f + b ^ n * V b m (fun i => f (n + i))
 | 0, _ => by simp [V]
 | m + 1, f => by
  show V b (n + m) f + f (n + m) * b ^ (n + m) = _
  rw [V_split b n m f]
  show _ = V b n f + b ^ n * (V b m (fun i => f (n + i)) + f (n + m) * b ^ m)
  rw [Int.mul_add, Int.pow_add]
  have : f (n + m) * (b ^ n * b ^ m) = b ^ n * (f (n + m) * b ^ m) := by grind
  omega
theorem V_nn (b : Int) (hb : 0 ≤ b) : ∀ (n : Nat) (f : NI), (∀ i, i < n → 0 ≤ f i) → 0 ≤ V b n f
 | 0, _, _ => by simp [V]
 | n + 1, f, h => by
  unfold V
  have h1 := V_nn b hb n f (fun i hi => h i (by omega))
  have h2 := Int.mul_nonneg (h n (by omega)) (show (0 : Int) ≤ b ^ n from Int.pow_nonneg hb)
  omega
theorem V_le (b : Int) (hb : 2 ≤ b) (c : Int) (hc : 0 ≤ c) : ∀ (n : Nat) (f : NI), (∀ i, i < n → f i ≤ c * (b - 1)) → V b n f ≤ c * (b ^ n - 1)
 | 0, _, _ => by simp [V]
 | n + 1, f, h => by
  unfold V
  have h1 := V_le b hb c hc n f (fun i hi => h i (by omega))
  have hp : 0 ≤ b ^ n := Int.pow_nonneg (by omega)
  have h2 := Int.mul_le_mul_of_nonneg_right (h n (by omega)) hp
  have e : c * (b - 1) * b ^ n = c * (b ^ (n + 1) - 1) - c * (b ^ n - 1) := by
   rw [Int.pow_succ]
   grind
  omega
theorem V_lt (b : Int) (hb : 2 ≤ b) (n : Nat) (f : NI) (h : ∀ i, i < n → f i < b) : V b n f < b ^ n := by
 have := V_le b hb 1 (by decide) n f (fun i hi => by have := h i hi; omega)
 omega
structure Ch (b : Int) (a : NI) (j : Nat) (c : Int) (s : NI) : Prop where
 c0 : 0 ≤ c
 c1 : c < 4611686018427387904
 val : V b j s + c * b ^ j = V b j a
 dig : ∀ i, i < j → 0 ≤ s i ∧ s i < b
theorem chain (m : Int) (sh : Nat) (b : Int) (hb : 2 ≤ b) (hm : ∀ x, 0 ≤ x → x < 18446744073709551616 → un x m = x % b) (hs : ∀ x, sr x sh = x / b) (a : NI) : ∀ (j : Nat), (∀ i, i < j → 0 ≤ a i ∧ a i < 4611686018427387904) → Ch b a j (cy sh a j) (st m sh a j)
 | 0, _ => ⟨by simp [cy], by simp [cy], by simp [V, cy], fun i hi => absurd hi (by omega)⟩
 | j + 1, h => by
  have ih := chain m sh b hb hm hs a j (fun i hi => h i (by omega))
  have hj := h j (by omega)
  have c0 := ih.c0
  have c1 := ih.c1
  have e1 : ua (a j) (cy sh a j) = a j + cy sh a j := ua_eq _ _ (by omega) (by omega)
  have e2 : cy sh a (j + 1) = (a j + cy sh a j) / b := by
   show sr (ua (a j) (cy sh a j)) sh = _
   rw [e1, hs]
  have e3 : st m sh a (j + 1) = upd (st m sh a j) j ((a j + cy sh a j) % b) := by
   show upd (st m sh a j) j (un (ua (a j) (cy sh a j)) m) = _
   rw [e1, hm _ (by omega) (by omega)]
  have hx : 0 ≤ a j + cy sh a j := by omega
  have hx1 : a j + cy sh a j < 9223372036854775808 := by omega
  have hv := ih.val
  have hd := ih.dig
  rw [e2, e3]
  generalize cy sh a j = c at *
  generalize st m sh a j = s at *
  have q0 : 0 ≤ (a j + c) / b := Int.ediv_nonneg hx (by omega)
  have r0 : 0 ≤ (a j + c) % b := Int.emod_nonneg _ (by omega)
  have r1 : (a j + c) % b < b := Int.emod_lt_of_pos _ (by omega)
  have eq : (a j + c) % b + b * ((a j + c) / b) = a j + c := Int.emod_add_mul_ediv _ _
  refine ⟨q0, ?_, ?_, ?_⟩
  ·have : 2 * ((a j + c) / b) ≤ b * ((a j + c) / b) := Int.mul_le_mul_of_nonneg_right hb q0
   omega
  ·unfold V
   rw [V_congr b j (upd s j _) s (fun i hi => if_neg (by omega)), show upd s j ((a j + c) % b) j = (a j + c) % b from if_pos rfl, Int.pow_succ]
   generalize (a j + c) / b = q at *
   generalize (a j + c) % b = r at *
   have e : r * b ^ j + q * (b ^ j * b) = (a j + c) * b ^ j := by
    rw [← eq]
    grind
   rw [Int.add_mul] at e
   omega
  ·intro i hi
   by_cases e : i = j
   ·subst e
    rw [show upd s i ((a i + c) % b) i = (a i + c) % b from if_pos rfl]
    exact ⟨r0, r1⟩
   ·rw [show upd s j ((a j + c) % b) i = s i from if_neg e]
    exact hd i (by omega)
theorem sr26 (x : Int) : sr x 26 = x / 67108864 := sr_eq x 26
theorem sr8 (x : Int) : sr x 8 = x / 256 := sr_eq x 8
theorem sr2 (x : Int) : sr x 2 = x / 4 := sr_eq x 2
theorem chain26 (a : NI) (j : Nat) (h : ∀ i, i < j → 0 ≤ a i ∧ a i < 4611686018427387904) : Ch 67108864 a j (cy 26 a j) (st 67108863 26 a j) := chain 67108863 26 67108864 (by decide) un26 sr26 a j h
theorem chain8 (a : NI) (j : Nat) (h : ∀ i, i < j → 0 ≤ a i ∧ a i < 4611686018427387904) : Ch 256 a j (cy 8 a j) (st 255 8 a j) := chain 255 8 256 (by decide) un8 sr8 a j h
theorem Ch.cut {b : Int} {a s : NI} {j : Nat} {c : Int} (h : Ch b a j c s) (hb : 2 ≤ b) : c = V b j a / b ^ j ∧ V b j s = V b j a % b ^ j := by
 have h0 := V_nn b (by omega) j s (fun i hi => (h.dig i hi).1)
 have h1 := V_lt b hb j s (fun i hi => (h.dig i hi).2)
 have hp : 0 < b ^ j := Int.pow_pos (by omega)
 rw [← h.val]
 constructor
 ·rw [Int.add_mul_ediv_right _ _ (by omega), Int.ediv_eq_zero_of_lt h0 h1]
  omega
 ·rw [Int.add_mul_emod_self_right, Int.emod_eq_of_lt h0 h1]
open Go.RowKit
theorem pB5 : (67108864 : Int) ^ 5 = 1361129467683753853853498429727072845824 := by decide
theorem s5_val (a : NI) (h : ∀ i, i < 5 → 0 ≤ a i ∧ a i < 4611686018427387904) : (c5 a = V 67108864 5 a / 1361129467683753853853498429727072845824 ∧ V 67108864 5 (s5 a) = V 67108864 5 a % 1361129467683753853853498429727072845824) ∧ (∀ i, i < 5 → 0 ≤ s5 a i ∧ s5 a i < 67108864) ∧ 0 ≤ c5 a ∧ c5 a < 4611686018427387904 := by
 have C := chain26 a 5 h
 have H := C.cut (by decide)
 rw [pB5] at H
 exact ⟨H, C.dig, C.c0, C.c1⟩
theorem V0 (b : Int) (n : Nat) (f : NI) (x : Int) (h : 0 < n) : V b n (upd f 0 x) = V b n f + (x - f 0) := by
 rw [V_upd b n f 0 x h]
 simp
theorem cr1_val (a : NI) (h : ∀ i, i < 5 → 0 ≤ a i ∧ a i < 1152921504606846976) : V 67108864 5 (cr1 a) = V 67108864 5 a % 1361129467683753853853498429727072845824 + 5 * (V 67108864 5 a / 1361129467683753853853498429727072845824) ∧ (∀ i, i < 5 → 0 ≤ cr1 a i ∧ cr1 a i < 67108864 + 5 * (V 67108864 5 a / 1361129467683753853853498429727072845824)) ∧ 0 ≤ V 67108864 5 a / 1361129467683753853853498429727072845824 ∧ V 67108864 5 a / 1361129467683753853853498429727072845824 < 34359738368 := by
 obtain ⟨⟨h1, h2⟩, h3, h4, h5⟩ := s5_val a (fun i hi => by have := h i hi; omega)
 have n0 := V_nn 67108864 (by decide) 5 a (fun i hi => (h i hi).1)
 have n1 := V_le 67108864 (by decide) 34359738368 (by decide) 5 a (fun i hi => by have := h i hi; omega)
 rw [pB5] at n1
 have q0 : 0 ≤ V 67108864 5 a / 1361129467683753853853498429727072845824 := by omega
 have q1 : V 67108864 5 a / 1361129467683753853853498429727072845824 < 34359738368 := by omega
 have z := h3 0 (by decide)
 have e : cr1 a = upd (s5 a) 0 (s5 a 0 + 5 * (V 67108864 5 a / 1361129467683753853853498429727072845824)) := by
  unfold cr1
  rw [h1]
  generalize V 67108864 5 a / 1361129467683753853853498429727072845824 = q at *
  rw [um_eq q 5 (by omega) (by omega), ua_eq _ _ (by omega) (by omega), Int.mul_comm]
 refine ⟨?_, ?_, q0, q1⟩
 ·rw [e, V0 _ _ _ _ (by decide), h2]
  omega
 ·intro i hi
  have := h3 i hi
  rw [e]
  by_cases c : i = 0
  ·subst c
   rw [up_at]
   omega
  ·rw [up_ne _ _ _ c]
   omega
structure Good (h : NI) : Prop where
 part : ∀ i, i < 5 → 0 ≤ h i ∧ h i < 67108870
 lt : V 67108864 5 h < 1361129467683753853853498429727072845824
theorem Good.nn {h : NI} (g : Good h) : 0 ≤ V 67108864 5 h := V_nn _ (by decide) 5 h (fun i hi => (g.part i hi).1)
theorem cr_val (a : NI) (h : ∀ i, i < 5 → 0 ≤ a i ∧ a i < 1152921504606846976) : Good (crF a) ∧ ∃ k, V 67108864 5 a = V 67108864 5 (crF a) + k * 1361129467683753853853498429727072845819 := by
 obtain ⟨h1, h2, h3, h4⟩ := cr1_val a h
 have n0 := V_nn 67108864 (by decide) 5 a (fun i hi => (h i hi).1)
 obtain ⟨g1, g2, g3, g4⟩ := cr1_val (cr1 a) (fun i hi => by have := h2 i hi; omega)
 have e : crF a = cr1 (cr1 a) := rfl
 rw [h1] at g1 g2 g3
 rw [e]
 have f1 : V 67108864 5 (cr1 (cr1 a)) < 1361129467683753853853498429727072845824 := by
  rw [g1]
  generalize V 67108864 5 a = v at *
  omega
 have f2 : (V 67108864 5 a % 1361129467683753853853498429727072845824 + 5 * (V 67108864 5 a / 1361129467683753853853498429727072845824)) / 1361129467683753853853498429727072845824 ≤ 1 := by
  generalize V 67108864 5 a = v at *
  omega
 refine ⟨⟨fun i hi => ?_, f1⟩, V 67108864 5 a / 1361129467683753853853498429727072845824 + (V 67108864 5 a % 1361129467683753853853498429727072845824 + 5 * (V 67108864 5 a / 1361129467683753853853498429727072845824)) / 1361129467683753853853498429727072845824, ?_⟩
 ·have := g2 i hi
  omega
 ·rw [g1]
  generalize V 67108864 5 a = v at *
  omega
theorem pls_at (a b : NI) : ∀ n i, pls a b n i = if i < n then ua (a i) (b i) else a i
 | 0, i => by rw [if_neg (by omega)]; rfl
 | n + 1, i => by
  unfold pls
  by_cases e : i = n
  ·subst e
   rw [up_at, pls_at a b i i, if_neg (by omega), if_pos (by omega)]
  ·rw [up_ne _ _ _ e, pls_at a b n i]
   by_cases h : i < n
   ·rw [if_pos h, if_pos (by omega)]
   ·rw [if_neg h, if_neg (by omega)]
theorem pl_val' (a b : NI) (ha : ∀ i, i < 5 → 0 ≤ a i ∧ a i < 134217728) (hb : ∀ i, i < 5 → 0 ≤ b i ∧ b i < 134217728) : (∀ i, i < 5 → 0 ≤ plF a b i ∧ plF a b i < 268435456) ∧ V 67108864 5 (plF a b) = V 67108864 5 a + V 67108864 5 b := by
 have e : ∀ i, i < 5 → plF a b i = a i + b i := fun i hi => by
  have h1 := ha i hi
  have h2 := hb i hi
  unfold plF
  rw [pls_at, if_pos hi, ua_eq _ _ (by omega) (by omega)]
 refine ⟨fun i hi => ?_, ?_⟩
 ·rw [e i hi]
  have h1 := ha i hi
  have h2 := hb i hi
  omega
 ·rw [V_congr _ 5 _ (fun i => a i + b i) e, V_add]
theorem tr_val (b : Int) (m : Nat) (x y P : NI) (n i : Nat) (hm : ∀ j, j < n → i + j < m) (M C : Int) (hM : 0 ≤ M) (hC : C + M < 4611686018427387904) (hP : ∀ k, 0 ≤ P k ∧ P k ≤ C) (hxy : ∀ j, j < n → 0 ≤ x i * y j ∧ x i * y j ≤ M) :
  ∀ j, j ≤ n → (∀ k, 0 ≤ tr P x y i j k ∧ tr P x y i j k ≤ (if k < i + j then C + M else C)) ∧ V b m (tr P x y i j) = V b m P + x i * b ^ i * V b j y
 | 0, _ => by
  refine ⟨fun k => ?_, ?_⟩
  ·have := hP k
   show 0 ≤ P k ∧ P k ≤ _
   split <;> omega
  ·show V b m P = _
   simp [V]
 | j + 1, h => by
  obtain ⟨h1, h2⟩ := tr_val b m x y P n i hm M C hM hC hP hxy j (by omega)
  have hp := hxy j (by omega)
  have hq := h1 (i + j)
  rw [if_neg (by omega)] at hq
  have e : tr P x y i (j + 1) = upd (tr P x y i j) (i + j) (tr P x y i j (i + j) + x i * y j) := by
   show upd (tr P x y i j) (i + j) (ua (tr P x y i j (i + j)) (um (x i) (y j))) = _
   rw [um_eq _ _ hp.1 (by omega), ua_eq _ _ (by omega) (by omega)]
  rw [e]
  refine ⟨fun k => ?_, ?_⟩
  ·by_cases c : k = i + j
   ·subst c
    rw [up_at, if_pos (by omega)]
    omega
   ·rw [up_ne _ _ _ c]
    have h3 := h1 k
    by_cases d : k < i + j
    ·rw [if_pos d] at h3
     rw [if_pos (by omega)]
     exact h3
    ·rw [if_neg d] at h3
     rw [if_neg (by omega)]
     exact h3
  ·rw [V_upd b m _ _ _ (hm j (by omega)), h2]
   show _ = V b m P + x i * b ^ i * (V b j y + y j * b ^ j)
   rw [Int.pow_add]
   grind
theorem tp_val (b : Int) (m n : Nat) (x y : NI) (hm : ∀ i j, i < n → j < n → i + j < m) (M : Int) (hM : 0 ≤ M) (hC : (n : Int) * M < 4611686018427387904) (hxy : ∀ i j, i < n → j < n → 0 ≤ x i * y j ∧ x i * y j ≤ M) :
  ∀ i, i ≤ n → (∀ k, 0 ≤ tp n x y i k ∧ tp n x y i k ≤ (i : Int) * M) ∧ V b m (tp n x y i) = V b i x * V b n y
 | 0, _ => by
  refine ⟨fun k => by simp [tp], ?_⟩
  have : ∀ m, V b m (fun _ => 0) = 0 := fun m => by
   induction m with
   | zero => rfl
   | succ m ih => simp [V, ih]
  show V b m (fun _ => 0) = _
  rw [this]
  simp [V]
 | i + 1, h => by
  obtain ⟨h1, h2⟩ := tp_val b m n x y hm M hM hC hxy i (by omega)
  have e : ((i + 1 : Nat) : Int) * M = (i : Int) * M + M := by
   rw [Int.natCast_add, Int.add_mul]
   simp
  have hle : ((i + 1 : Nat) : Int) * M ≤ (n : Int) * M := Int.mul_le_mul_of_nonneg_right (by omega) hM
  obtain ⟨g1, g2⟩ := tr_val b m x y (tp n x y i) n i (fun j hj => hm i j (by omega) hj) M ((i : Int) * M) hM (by omega) h1 (fun j hj => hxy i j (by omega) hj) n (Nat.le_refl _)
  refine ⟨fun k => ?_, ?_⟩
  ·have h3 := g1 k
   show 0 ≤ tr (tp n x y i) x y i n k ∧ tr (tp n x y i) x y i n k ≤ _
   rw [e]
   split at h3 <;> omega
  ·show V b m (tr (tp n x y i) x y i n) = (V b i x + x i * b ^ i) * V b n y
   rw [g2, h2, Int.add_mul]
theorem tlo_at (P : NI) : ∀ n k, tlo P n k = if k < n then ua (P k) (um (P (5 + k)) 5) else P k
 | 0, k => by rw [if_neg (by omega)]; rfl
 | n + 1, k => by
  unfold tlo
  by_cases e : k = n
  ·subst e
   rw [up_at, tlo_at P k k, if_neg (by omega), if_pos (by omega)]
  ·rw [up_ne _ _ _ e, tlo_at P n k]
   by_cases h : k < n
   ·rw [if_pos h, if_pos (by omega)]
   ·rw [if_neg h, if_neg (by omega)]
theorem tm_val (x y : NI) (hx : ∀ i, i < 5 → 0 ≤ x i ∧ x i < 268435456) (hy : ∀ i, i < 5 → 0 ≤ y i ∧ y i < 67108864) : Good (tmF x y) ∧ ∃ k, V 67108864 5 x * V 67108864 5 y = V 67108864 5 (tmF x y) + k * 1361129467683753853853498429727072845819 := by
 obtain ⟨h1, h2⟩ := tp_val 67108864 9 5 x y (fun i j hi hj => by omega) 18014398509481984 (by decide) (by decide) (fun i j hi hj => by
  have a := hx i hi
  have c := hy j hj
  refine ⟨Int.mul_nonneg a.1 c.1, ?_⟩
  have := Int.mul_le_mul (show x i ≤ 268435456 by omega) (show y j ≤ 67108864 by omega) c.1 (by decide)
  exact this) 5 (Nat.le_refl _)
 unfold tmF
 generalize tp 5 x y 5 = P at *
 have hP : ∀ k, 0 ≤ P k ∧ P k ≤ 90071992547409920 := fun k => by
  have := h1 k
  omega
 have e : ∀ i, i < 5 → tlo P 4 i = P i + (if i < 4 then 5 * P (5 + i) else 0) := fun i hi => by
  have a := hP i
  have c := hP (5 + i)
  rw [tlo_at]
  by_cases d : i < 4
  ·rw [if_pos d, if_pos d, um_eq _ _ (by omega) (by omega), ua_eq _ _ (by omega) (by omega), Int.mul_comm]
  ·rw [if_neg d, if_neg d, Int.add_zero]
 obtain ⟨g, k, hk⟩ := cr_val (tlo P 4) (fun i hi => by
  have a := hP i
  have c := hP (5 + i)
  rw [e i hi]
  split <;> omega)
 refine ⟨g, k + V 67108864 4 (fun i => P (5 + i)), ?_⟩
 have f : V 67108864 5 (tlo P 4) = V 67108864 5 P + 5 * V 67108864 4 (fun i => P (5 + i)) := by
  rw [V_congr _ 5 _ (fun i => P i + (if i < 4 then 5 * P (5 + i) else 0)) e, V_add, ← V_mul]
  show V 67108864 5 P + (V 67108864 4 (fun i => if i < 4 then 5 * P (5 + i) else 0) + (if 4 < 4 then 5 * P (5 + 4) else 0) * 67108864 ^ 4) = _
  rw [V_congr _ 4 (fun i => if i < 4 then 5 * P (5 + i) else 0) (fun i => 5 * P (5 + i)) (fun i hi => if_pos hi), if_neg (by decide)]
  omega
 have s := V_split 67108864 5 4 P
 rw [pB5] at s
 rw [← h2]
 have s2 : V 67108864 9 P = V 67108864 5 P + 1361129467683753853853498429727072845824 * V 67108864 4 (fun i => P (5 + i)) := s
 rw [s2]
 generalize V 67108864 4 (fun i => P (5 + i)) = hi at *
 omega
theorem ls_val (a : NI) (g : Good a) : (∀ i, i < 5 → 0 ≤ lsF a i ∧ lsF a i < 67108864) ∧ V 67108864 5 (lsF a) = V 67108864 5 a % 1361129467683753853853498429727072845819 := by
 have n0 := g.nn
 have n1 := g.lt
 have p0 := g.part 0 (by decide)
 have e1 : mo5 a = upd a 0 (a 0 + 5) := by
  unfold mo5
  rw [ua_eq _ _ (by omega) (by omega)]
 obtain ⟨⟨h1, -⟩, -, h4, h5⟩ := s5_val (mo5 a) (fun i hi => by
  have := g.part i hi
  rw [e1]
  by_cases c : i = 0
  ·subst c
   rw [up_at]
   omega
  ·rw [up_ne _ _ _ c]
   omega)
 rw [e1, V0 _ _ _ _ (by decide)] at h1
 have e2 : lsF a = s5 (upd a 0 (a 0 + 5 * c5 (mo5 a))) := by
  unfold lsF
  rw [e1]
  generalize c5 (upd a 0 (a 0 + 5)) = q at *
  have : q ≤ 1 := by
   rw [h1]
   omega
  rw [um_eq _ _ (by rw [← e1] at *; omega) (by omega), ua_eq _ _ (by omega) (by omega), Int.mul_comm]
 rw [← e1] at h1
 generalize c5 (mo5 a) = q at *
 have q1 : q ≤ 1 := by
  rw [h1]
  omega
 have q0 : 0 ≤ q := by
  rw [h1]
  omega
 obtain ⟨⟨-, k2⟩, k3, -, -⟩ := s5_val (upd a 0 (a 0 + 5 * q)) (fun i hi => by
  have := g.part i hi
  by_cases c : i = 0
  ·subst c
   rw [up_at]
   omega
  ·rw [up_ne _ _ _ c]
   omega)
 rw [e2]
 refine ⟨k3, ?_⟩
 rw [k2, V0 _ _ _ _ (by decide)]
 generalize V 67108864 5 a = v at *
 clear k2 k3 e2
 rcases (show q = 0 ∨ q = 1 by omega) with rfl | rfl
 ·omega
 ·omega
end Go.Proofs.YtffimigpbcilbaaGreatDoor.Pol
