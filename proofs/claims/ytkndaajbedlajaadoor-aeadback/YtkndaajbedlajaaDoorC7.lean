/- The document: the walks of word, quarter, Block and Turn. -/
import Derived.Test.YtkndaajbedlajaaDoorC6
namespace Go.Proofs.YtkndaajbedlajaaDoor
open Go.RowKit

section
variable {P : Program} {ops : Array Oper} {rest : List Oper} {o : Oper} {a : Act} {w : World} {c : Ctx} {L : List Blk} {Q : Exit → Act → World → Prop}
theorem SB.put {Z : Obj} {cap : Nat} {l : List Value} (h : SB Z cap l) {i : Nat} (hi : i < l.length) (v : Value) {W : World} {g : Nat} (hz : W.heap[g]? = some Z) : ∃ Z', (W.setCell ⟨g, i, none⟩ v).heap[g]? = some Z' ∧ SB Z' cap (l.set i v) := by
  obtain ⟨cs, T, fr, rfl, h1, h2, h3, h4⟩ := h.ex
  refine ⟨.cells (cs.setIfInBounds i v) T fr, ?_, ⟨_, T, fr, rfl, by simpa using h1, by simpa using h2, fun j hj => ?_, h4⟩⟩
  · simp [World.setCell, Array.getElem?_modify, hz]
  · rw [List.length_set] at hj
    rw [Array.getElem?_setIfInBounds, List.getElem?_set]
    by_cases e : i = j
    · subst e
      rw [if_pos rfl, if_pos rfl, if_pos (by omega), if_pos hi]
    · rw [if_neg e, if_neg e, h3 j hj]
theorem SB.free {Z : Obj} {cap : Nat} {l : List Value} (h : SB Z cap l) {i : Nat} (hi : i < l.length) {W : World} {g : Nat} (hz : W.heap[g]? = some Z) : W.frozen? ⟨g, i, none⟩ = false := by
  obtain ⟨cs, T, fr, rfl, h1, h2, h3, h4⟩ := h.ex
  unfold World.frozen?
  rw [hz]
  exact h4 i (by omega)
theorem pl_putS (M : Mem c L w) (hw : Region.wanted o (yielded ops a.tmps) = true) (hd : o.dst = none) (ty : TypeId) (x y : Operand) (ho : o.op = .store ty x y) (i g off : Nat) (hx : a.eval x = .pointer (some ⟨g, off, none⟩)) (Z : Obj) (hi : L[i]? = some ⟨g, Z⟩) (cap : Nat) (l : List Value) (hs : SB Z cap l) (hk : off < l.length) (v : Value)
    (hy : a.eval y = v) (hz : (P.info? ty).map (·.size) = some 1) (h1 : v.oneCell' = true) (hc : v.cells = #[v])
    (h : ∀ Z' w', SB Z' cap (l.set off v) → Mem c (L.set i ⟨g, Z'⟩) w' → PL P ops Q rest a w') : PL P ops Q (o :: rest) a w := by
  have R := M.get i hi
  obtain ⟨Z', h2, h3⟩ := hs.put hk v R
  have h4 := h Z' (w.setCell ⟨g, off, none⟩ v) h3 (M.put i ⟨g, _⟩ hi _ (grown_setCell w g off v) h2)
  have hcell : w.cell? ⟨g, off, none⟩ = some l[off] := hs.cell R (List.getElem?_eq_getElem hk)
  have hrun : (Instr.storeAt ty (.pointer (some ⟨g, off, none⟩)) v).run P w = .ok () (w.setCell ⟨g, off, none⟩ v) := by
    cases hq : P.info? ty with
    | none => simp [hq] at hz
    | some t =>
      have ht : t.size = 1 := by simpa [hq] using hz
      have hcc := run_storeCells_cells (P := P) g off [v] 0 w (by intro j hj; simp at hj; subst hj; simp [hcell]) (by intro j hj; simp at hj; subst hj; simpa using hs.free hk R) (by simpa using h1)
      simp only [Nat.add_zero, World.setCells] at hcc
      simp [Instr.storeAt, Instr.sureAddr, storeVar, sizeOf, typeInfo, hq, ht, hc, hcc]
  refine ⟨Go.BigFrame.wpList_want hw fun K hK => ?_⟩
  unfold Oper.wp execOp
  simp only [ho, hx, hy, Sem.run_bind, hrun, Result.andThen_ok, Sem.run_pure]
  show K (a.put o.dst undef) _
  rw [hd]
  exact hK _ _ h4.out
end
/-- Four bytes, the lowest first. -/
def wd4 (s : ByteArray) : Int := vo (vo (vo (cv .u32 (bt s 0)) (vl (cv .u32 (bt s 1)) 8)) (vl (cv .u32 (bt s 2)) 16)) (vl (cv .u32 (bt s 3)) 24)

set_option maxRecDepth 100000 in
set_option maxHeartbeats 4000000 in
theorem d_word (s : ByteArray) (hs : s.size = 4) (w : World) (hL : Laid w)  :
    Calls Tryd.prog 48 #[.string s] w fun r w' => r = .returned (.int .u32 (wd4 s)) ∧ Below w.heap.size w w' := by
  go_enter Tryd.func48, Tryd.ntmps48
  have M := Mem.start hL
  refine wp_seq ?_
  refine rg_lit ?_
  refine pl_val (want_no rfl) (some 2) rfl (.int .u32 0) (fun _ => by kernel_rfl) ?_
  refine pl_nil ?_
  refine au_then ?_
  refine wp_seq ?_
  refine rg_tail M 18 (by kernel_rfl) (by kernel_rfl) ?_
  simp only [List.take_succ_cons, List.take_zero]
  refine k_val (want_no rfl) (some 3) rfl (.string s) (fun _ => by kernel_rfl) ?_
  refine k_val (want_no rfl) (some 4) rfl (.int .u8 (bt s 0)) (run_ixS 9 Tryd.underlying9 _ _ rfl s (by kernel_rfl) .i64 0 (by kernel_rfl) (by omega)) ?_
  refine k_val (want_no rfl) (some 5) rfl (.int .u32 (cv .u32 (bt s 0))) (fun _ => by kernel_rfl) ?_
  refine k_val (want_no rfl) (some 6) rfl (.string s) (fun _ => by kernel_rfl) ?_
  refine k_val (want_no rfl) (some 7) rfl (.int .u8 (bt s 1)) (run_ixS 9 Tryd.underlying9 _ _ rfl s (by kernel_rfl) .i64 1 (by kernel_rfl) (by omega)) ?_
  refine k_val (want_no rfl) (some 8) rfl (.int .u32 (cv .u32 (bt s 1))) (fun _ => by kernel_rfl) ?_
  refine k_val (want_no rfl) (some 9) rfl (.int .u32 (vl (cv .u32 (bt s 1)) 8)) (fun _ => by kernel_rfl) ?_
  refine k_val (want_no rfl) (some 10) rfl (.int .u32 (vo (cv .u32 (bt s 0)) (vl (cv .u32 (bt s 1)) 8))) (fun _ => by kernel_rfl) ?_
  refine k_val (want_no rfl) (some 11) rfl (.string s) (fun _ => by kernel_rfl) ?_
  refine k_val (want_no rfl) (some 12) rfl (.int .u8 (bt s 2)) (run_ixS 9 Tryd.underlying9 _ _ rfl s (by kernel_rfl) .i64 2 (by kernel_rfl) (by omega)) ?_
  refine k_val (want_no rfl) (some 13) rfl (.int .u32 (cv .u32 (bt s 2))) (fun _ => by kernel_rfl) ?_
  refine k_val (want_no rfl) (some 14) rfl (.int .u32 (vl (cv .u32 (bt s 2)) 16)) (fun _ => by kernel_rfl) ?_
  refine k_val (want_no rfl) (some 15) rfl (.int .u32 (vo (vo (cv .u32 (bt s 0)) (vl (cv .u32 (bt s 1)) 8)) (vl (cv .u32 (bt s 2)) 16))) (fun _ => by kernel_rfl) ?_
  refine k_val (want_no rfl) (some 16) rfl (.string s) (fun _ => by kernel_rfl) ?_
  refine k_val (want_no rfl) (some 17) rfl (.int .u8 (bt s 3)) (run_ixS 9 Tryd.underlying9 _ _ rfl s (by kernel_rfl) .i64 3 (by kernel_rfl) (by omega)) ?_
  refine k_val (want_no rfl) (some 18) rfl (.int .u32 (cv .u32 (bt s 3))) (fun _ => by kernel_rfl) ?_
  refine k_val (want_no rfl) (some 19) rfl (.int .u32 (vl (cv .u32 (bt s 3)) 24)) (fun _ => by kernel_rfl) ?_
  refine k_val (want_no rfl) (some 20) rfl (.int .u32 (vo (vo (vo (cv .u32 (bt s 0)) (vl (cv .u32 (bt s 1)) 8)) (vl (cv .u32 (bt s 2)) 16)) (vl (cv .u32 (bt s 3)) 24))) (fun _ => by kernel_rfl) ?_
  refine kl_nil ?_
  intro u1 M
  replace M : Mem ⟨w, []⟩ [] u1 := M
  refine pl_val (want_no rfl) (some 2) rfl (.int .u32 (vo (vo (vo (cv .u32 (bt s 0)) (vl (cv .u32 (bt s 1)) 8)) (vl (cv .u32 (bt s 2)) 16)) (vl (cv .u32 (bt s 3)) 24))) (fun _ => by kernel_rfl) ?_
  refine pl_nil ?_
  refine au_then ?_
  refine wp_ret ?_
  exact bodyPost_ret (v := .int .u32 (vo (vo (vo (cv .u32 (bt s 0)) (vl (cv .u32 (bt s 1)) 8)) (vl (cv .u32 (bt s 2)) 16)) (vl (cv .u32 (bt s 3)) 24))) (results_tmp1 Tryd.results48 _ _ _ (by kernel_rfl)) (by kernel_rfl) ⟨rfl, below_grown M.old⟩

def e1 (v : Nat → Int) (p0 p1 : Nat) : Nat → Int := upd v p0 (va (v p0) (v p1))
def e2 (v : Nat → Int) (p0 p1 p3 : Nat) : Nat → Int := upd (e1 v p0 p1) p3 (vx ((e1 v p0 p1) p3) ((e1 v p0 p1) p0))
def e3 (v : Nat → Int) (p0 p1 p3 : Nat) : Nat → Int := upd (e2 v p0 p1 p3) p3 (rl ((e2 v p0 p1 p3) p3) 16)
def e4 (v : Nat → Int) (p0 p1 p2 p3 : Nat) : Nat → Int := upd (e3 v p0 p1 p3) p2 (va ((e3 v p0 p1 p3) p2) ((e3 v p0 p1 p3) p3))
def e5 (v : Nat → Int) (p0 p1 p2 p3 : Nat) : Nat → Int := upd (e4 v p0 p1 p2 p3) p1 (vx ((e4 v p0 p1 p2 p3) p1) ((e4 v p0 p1 p2 p3) p2))
def e6 (v : Nat → Int) (p0 p1 p2 p3 : Nat) : Nat → Int := upd (e5 v p0 p1 p2 p3) p1 (rl ((e5 v p0 p1 p2 p3) p1) 12)
def e7 (v : Nat → Int) (p0 p1 p2 p3 : Nat) : Nat → Int := upd (e6 v p0 p1 p2 p3) p0 (va ((e6 v p0 p1 p2 p3) p0) ((e6 v p0 p1 p2 p3) p1))
def e8 (v : Nat → Int) (p0 p1 p2 p3 : Nat) : Nat → Int := upd (e7 v p0 p1 p2 p3) p3 (vx ((e7 v p0 p1 p2 p3) p3) ((e7 v p0 p1 p2 p3) p0))
def e9 (v : Nat → Int) (p0 p1 p2 p3 : Nat) : Nat → Int := upd (e8 v p0 p1 p2 p3) p3 (rl ((e8 v p0 p1 p2 p3) p3) 8)
def e10 (v : Nat → Int) (p0 p1 p2 p3 : Nat) : Nat → Int := upd (e9 v p0 p1 p2 p3) p2 (va ((e9 v p0 p1 p2 p3) p2) ((e9 v p0 p1 p2 p3) p3))
def e11 (v : Nat → Int) (p0 p1 p2 p3 : Nat) : Nat → Int := upd (e10 v p0 p1 p2 p3) p1 (vx ((e10 v p0 p1 p2 p3) p1) ((e10 v p0 p1 p2 p3) p2))
def e12 (v : Nat → Int) (p0 p1 p2 p3 : Nat) : Nat → Int := upd (e11 v p0 p1 p2 p3) p1 (rl ((e11 v p0 p1 p2 p3) p1) 7)
theorem up_at (f : Nat → Int) (k : Nat) (x : Int) : upd f k x k = x := if_pos rfl
theorem up_ne (f : Nat → Int) (k : Nat) (x : Int) {j : Nat} (h : j ≠ k) : upd f k x j = f j := if_neg h
theorem up_up (f : Nat → Int) (k : Nat) (x y : Int) : upd (upd f k x) k y = upd f k y := by
  funext t
  unfold upd
  split <;> rfl
theorem up_comm (f : Nat → Int) {i j : Nat} (h : i ≠ j) (x y : Int) : upd (upd f i x) j y = upd (upd f j y) i x := by
  funext t
  unfold upd
  by_cases h1 : t = j
  · subst h1
    rw [if_pos rfl, if_neg (Ne.symm h), if_pos rfl]
  · rw [if_neg h1, if_neg h1]
theorem e12_eq (v : Nat → Int) (i j k l : Nat) (hij : i ≠ j) (hik : i ≠ k) (hil : i ≠ l) (hjk : j ≠ k) (hjl : j ≠ l) (hkl : k ≠ l) : e12 v i j k l = mxF v i j k l := by
  have a3 : e3 v i j l = upd (upd v i (mA1 v i j)) l (mD1 v i j l) := by
    unfold e3 e2 e1 mD1 mA1
    rw [up_up, up_at, up_ne _ _ _ (Ne.symm hil), up_at]
  have a4 : e4 v i j k l = upd (upd (upd v i (mA1 v i j)) l (mD1 v i j l)) k (mC1 v i j k l) := by
    unfold e4 mC1
    rw [a3, up_at, up_ne _ _ _ hkl, up_ne _ _ _ (Ne.symm hik)]
  have a6 : e6 v i j k l = upd (upd (upd (upd v i (mA1 v i j)) l (mD1 v i j l)) k (mC1 v i j k l)) j (mB1 v i j k l) := by
    unfold e6 e5 mB1
    rw [up_up, up_at, a4, up_at, up_ne _ _ _ hjk, up_ne _ _ _ hjl, up_ne _ _ _ (Ne.symm hij)]
  have a7 : e7 v i j k l = upd (e6 v i j k l) i (mA2 v i j k l) := by
    unfold e7 mA2
    rw [a6, up_at, up_ne _ _ _ hij, up_ne _ _ _ hik, up_ne _ _ _ hil, up_at]
  have a9 : e9 v i j k l = upd (e7 v i j k l) l (mD2 v i j k l) := by
    unfold e9 e8 mD2
    rw [up_up, up_at, a7, up_at, a6, up_ne _ _ _ (Ne.symm hil), up_ne _ _ _ (Ne.symm hjl), up_ne _ _ _ (Ne.symm hkl), up_at]
  have a10 : e10 v i j k l = upd (e9 v i j k l) k (mC2 v i j k l) := by
    unfold e10 mC2
    rw [a9, up_at, a7, a6, up_ne _ _ _ hkl, up_ne _ _ _ (Ne.symm hik), up_ne _ _ _ (Ne.symm hjk), up_at]
  have a12 : e12 v i j k l = upd (e10 v i j k l) j (mB2 v i j k l) := by
    unfold e12 e11 mB2
    rw [up_up, up_at, a10, up_at, a9, a7, a6, up_ne _ _ _ hjk, up_ne _ _ _ hjl, up_ne _ _ _ (Ne.symm hij), up_at]
  rw [a12, a10, a9, a7, a6]
  funext t
  unfold mxF upd
  by_cases h1 : t = l
  · subst h1
    simp [Ne.symm hjl, Ne.symm hkl]
  · by_cases h2 : t = k
    · subst h2
      simp [h1, Ne.symm hjk]
    · by_cases h3 : t = j
      · subst h3
        simp [h1, h2]
      · by_cases h4 : t = i
        · subst h4
          simp [h1, h2, h3]
        · simp [h1, h2, h3, h4]

set_option maxRecDepth 100000 in
set_option maxHeartbeats 4000000 in
theorem d_quarter (v : Nat → Int) (p0 p1 p2 p3 : Nat) (h0 : p0 < 16) (h1 : p1 < 16) (h2 : p2 < 16) (h3 : p3 < 16) (d0 : p0 ≠ p1) (d1 : p0 ≠ p2) (d2 : p0 ≠ p3) (d3 : p1 ≠ p2) (d4 : p1 ≠ p3) (d5 : p2 ≠ p3) (w : World) (hL : Laid w)  :
    Calls Tryd.prog 49 #[.agg (av 16 (w32 v)), .int .i64 (p0 : Int), .int .i64 (p1 : Int), .int .i64 (p2 : Int), .int .i64 (p3 : Int)] w fun r w' => r = .returned (.agg (av 16 (w32 (mxF v p0 p1 p2 p3)))) ∧ Below w.heap.size w w' := by
  go_enter Tryd.func49, Tryd.ntmps49
  have M := Mem.start hL
  refine wp_seq ?_
  refine rg_lit ?_
  refine pl_new M (want_no rfl) (some 5) rfl (.cells (av 16 (w32 v)) 43) (fun _ => by kernel_rfl) ?_
  intro g1 u1 M
  replace M : Mem ⟨w, []⟩ [⟨g1, .cells (av 16 (w32 v)) 43⟩] u1 := M
  refine pl_new M (want_no rfl) (some 10) rfl (.cells (av 16 (w32 (fun _ => 0))) 43) (fun _ => by kernel_rfl) ?_
  intro g2 u2 M
  replace M : Mem ⟨w, []⟩ [⟨g1, .cells (av 16 (w32 v)) 43⟩, ⟨g2, .cells (av 16 (w32 (fun _ => 0))) 43⟩] u2 := M
  refine pl_nil ?_
  refine au_then ?_
  refine wp_seq ?_
  refine rg_tail M 9 (by kernel_rfl) (by kernel_rfl) ?_
  simp only [List.take_succ_cons, List.take_zero]
  refine k_val (want_no rfl) (some 11) rfl (.int .i64 (p0 : Int)) (fun _ => by kernel_rfl) ?_
  refine k_val (want_no rfl) (some 12) rfl (.int .i64 (p0 : Int)) (fun _ => by kernel_rfl) ?_
  refine k_val (want_no rfl) (some 13) rfl (.pointer (some ⟨g1, p0, none⟩)) (run_ix1 43 16 37 Tryd.underlying43 inz37 _ _ rfl g1 (by kernel_rfl) .i64 (p0) (by kernel_rfl) (by omega)) ?_
  refine k_cell M (want_no rfl) (some 14) rfl 37 _ rfl g1 p0 (by kernel_rfl) (.int .u32 (v p0)) (fun _ => by kernel_rfl) (fun w M => M.cell 0 rfl (by omega) rfl) ?_
  refine k_val (want_no rfl) (some 15) rfl (.int .i64 (p1 : Int)) (fun _ => by kernel_rfl) ?_
  refine k_val (want_no rfl) (some 16) rfl (.pointer (some ⟨g1, p1, none⟩)) (run_ix1 43 16 37 Tryd.underlying43 inz37 _ _ rfl g1 (by kernel_rfl) .i64 (p1) (by kernel_rfl) (by omega)) ?_
  refine k_cell M (want_no rfl) (some 17) rfl 37 _ rfl g1 p1 (by kernel_rfl) (.int .u32 (v p1)) (fun _ => by kernel_rfl) (fun w M => M.cell 0 rfl (by omega) rfl) ?_
  refine k_val (want_no rfl) (some 18) rfl (.int .u32 (va (v p0) (v p1))) (fun _ => by kernel_rfl) ?_
  refine k_val (want_no rfl) (some 19) rfl (.pointer (some ⟨g1, p0, none⟩)) (run_ix1 43 16 37 Tryd.underlying43 inz37 _ _ rfl g1 (by kernel_rfl) .i64 (p0) (by kernel_rfl) (by omega)) ?_
  refine kl_nil ?_
  intro u3 M
  replace M : Mem ⟨w, []⟩ [⟨g1, .cells (av 16 (w32 v)) 43⟩, ⟨g2, .cells (av 16 (w32 (fun _ => 0))) 43⟩] u3 := M
  refine pl_put1 M (want_no rfl) rfl 37 _ _ rfl 0 g1 p0 (by kernel_rfl) 16 43 (w32 v) rfl (.int .u32 (va (v p0) (v p1))) (w32 (upd v p0 (va (v p0) (v p1)))) (by kernel_rfl) inz37 (by omega) rfl rfl (fun j _ => put_w32 _ _ _ j) ?_
  intro u4 M
  replace M : Mem ⟨w, []⟩ [⟨g1, .cells (av 16 (w32 (upd v p0 (va (v p0) (v p1))))) 43⟩, ⟨g2, .cells (av 16 (w32 (fun _ => 0))) 43⟩] u4 := M
  refine pl_nil ?_
  replace M : Mem ⟨w, []⟩ [⟨g1, .cells (av 16 (w32 (e1 v p0 p1))) 43⟩, ⟨g2, .cells (av 16 (w32 (fun _ => 0))) 43⟩] u4 := M
  refine au_then ?_
  refine wp_seq ?_
  refine rg_tail M 9 (by kernel_rfl) (by kernel_rfl) ?_
  simp only [List.take_succ_cons, List.take_zero]
  refine k_val (want_no rfl) (some 20) rfl (.int .i64 (p3 : Int)) (fun _ => by kernel_rfl) ?_
  refine k_val (want_no rfl) (some 21) rfl (.int .i64 (p3 : Int)) (fun _ => by kernel_rfl) ?_
  refine k_val (want_no rfl) (some 22) rfl (.pointer (some ⟨g1, p3, none⟩)) (run_ix1 43 16 37 Tryd.underlying43 inz37 _ _ rfl g1 (by kernel_rfl) .i64 (p3) (by kernel_rfl) (by omega)) ?_
  refine k_cell M (want_no rfl) (some 23) rfl 37 _ rfl g1 p3 (by kernel_rfl) (.int .u32 ((e1 v p0 p1) p3)) (fun _ => by kernel_rfl) (fun w M => M.cell 0 rfl (by omega) rfl) ?_
  refine k_val (want_no rfl) (some 24) rfl (.int .i64 (p0 : Int)) (fun _ => by kernel_rfl) ?_
  refine k_val (want_no rfl) (some 25) rfl (.pointer (some ⟨g1, p0, none⟩)) (run_ix1 43 16 37 Tryd.underlying43 inz37 _ _ rfl g1 (by kernel_rfl) .i64 (p0) (by kernel_rfl) (by omega)) ?_
  refine k_cell M (want_no rfl) (some 26) rfl 37 _ rfl g1 p0 (by kernel_rfl) (.int .u32 ((e1 v p0 p1) p0)) (fun _ => by kernel_rfl) (fun w M => M.cell 0 rfl (by omega) rfl) ?_
  refine k_val (want_no rfl) (some 27) rfl (.int .u32 (vx ((e1 v p0 p1) p3) ((e1 v p0 p1) p0))) (fun _ => by kernel_rfl) ?_
  refine k_val (want_no rfl) (some 28) rfl (.pointer (some ⟨g1, p3, none⟩)) (run_ix1 43 16 37 Tryd.underlying43 inz37 _ _ rfl g1 (by kernel_rfl) .i64 (p3) (by kernel_rfl) (by omega)) ?_
  refine kl_nil ?_
  intro u5 M
  replace M : Mem ⟨w, []⟩ [⟨g1, .cells (av 16 (w32 (e1 v p0 p1))) 43⟩, ⟨g2, .cells (av 16 (w32 (fun _ => 0))) 43⟩] u5 := M
  refine pl_put1 M (want_no rfl) rfl 37 _ _ rfl 0 g1 p3 (by kernel_rfl) 16 43 (w32 (e1 v p0 p1)) rfl (.int .u32 (vx ((e1 v p0 p1) p3) ((e1 v p0 p1) p0))) (w32 (upd (e1 v p0 p1) p3 (vx ((e1 v p0 p1) p3) ((e1 v p0 p1) p0)))) (by kernel_rfl) inz37 (by omega) rfl rfl (fun j _ => put_w32 _ _ _ j) ?_
  intro u6 M
  replace M : Mem ⟨w, []⟩ [⟨g1, .cells (av 16 (w32 (upd (e1 v p0 p1) p3 (vx ((e1 v p0 p1) p3) ((e1 v p0 p1) p0))))) 43⟩, ⟨g2, .cells (av 16 (w32 (fun _ => 0))) 43⟩] u6 := M
  refine pl_nil ?_
  replace M : Mem ⟨w, []⟩ [⟨g1, .cells (av 16 (w32 (e2 v p0 p1 p3))) 43⟩, ⟨g2, .cells (av 16 (w32 (fun _ => 0))) 43⟩] u6 := M
  refine au_then ?_
  refine wp_seq ?_
  refine rg_tail M 11 (by kernel_rfl) (by kernel_rfl) ?_
  simp only [List.take_succ_cons, List.take_zero]
  refine k_val (want_no rfl) (some 29) rfl (.int .i64 (p3 : Int)) (fun _ => by kernel_rfl) ?_
  refine k_val (want_no rfl) (some 30) rfl (.int .i64 (p3 : Int)) (fun _ => by kernel_rfl) ?_
  refine k_val (want_no rfl) (some 31) rfl (.pointer (some ⟨g1, p3, none⟩)) (run_ix1 43 16 37 Tryd.underlying43 inz37 _ _ rfl g1 (by kernel_rfl) .i64 (p3) (by kernel_rfl) (by omega)) ?_
  refine k_cell M (want_no rfl) (some 32) rfl 37 _ rfl g1 p3 (by kernel_rfl) (.int .u32 ((e2 v p0 p1 p3) p3)) (fun _ => by kernel_rfl) (fun w M => M.cell 0 rfl (by omega) rfl) ?_
  refine k_val (want_no rfl) (some 33) rfl (.int .u32 (vl ((e2 v p0 p1 p3) p3) 16)) (fun _ => by kernel_rfl) ?_
  refine k_val (want_no rfl) (some 34) rfl (.int .i64 (p3 : Int)) (fun _ => by kernel_rfl) ?_
  refine k_val (want_no rfl) (some 35) rfl (.pointer (some ⟨g1, p3, none⟩)) (run_ix1 43 16 37 Tryd.underlying43 inz37 _ _ rfl g1 (by kernel_rfl) .i64 (p3) (by kernel_rfl) (by omega)) ?_
  refine k_cell M (want_no rfl) (some 36) rfl 37 _ rfl g1 p3 (by kernel_rfl) (.int .u32 ((e2 v p0 p1 p3) p3)) (fun _ => by kernel_rfl) (fun w M => M.cell 0 rfl (by omega) rfl) ?_
  refine k_val (want_no rfl) (some 37) rfl (.int .u32 (sr ((e2 v p0 p1 p3) p3) 16)) (fun _ => by kernel_rfl) ?_
  refine k_val (want_no rfl) (some 38) rfl (.int .u32 (vo (vl ((e2 v p0 p1 p3) p3) 16) (sr ((e2 v p0 p1 p3) p3) 16))) (fun _ => by kernel_rfl) ?_
  refine k_val (want_no rfl) (some 39) rfl (.pointer (some ⟨g1, p3, none⟩)) (run_ix1 43 16 37 Tryd.underlying43 inz37 _ _ rfl g1 (by kernel_rfl) .i64 (p3) (by kernel_rfl) (by omega)) ?_
  refine kl_nil ?_
  intro u7 M
  replace M : Mem ⟨w, []⟩ [⟨g1, .cells (av 16 (w32 (e2 v p0 p1 p3))) 43⟩, ⟨g2, .cells (av 16 (w32 (fun _ => 0))) 43⟩] u7 := M
  refine pl_put1 M (want_no rfl) rfl 37 _ _ rfl 0 g1 p3 (by kernel_rfl) 16 43 (w32 (e2 v p0 p1 p3)) rfl (.int .u32 (vo (vl ((e2 v p0 p1 p3) p3) 16) (sr ((e2 v p0 p1 p3) p3) 16))) (w32 (upd (e2 v p0 p1 p3) p3 (vo (vl ((e2 v p0 p1 p3) p3) 16) (sr ((e2 v p0 p1 p3) p3) 16)))) (by kernel_rfl) inz37 (by omega) rfl rfl (fun j _ => put_w32 _ _ _ j) ?_
  intro u8 M
  replace M : Mem ⟨w, []⟩ [⟨g1, .cells (av 16 (w32 (upd (e2 v p0 p1 p3) p3 (vo (vl ((e2 v p0 p1 p3) p3) 16) (sr ((e2 v p0 p1 p3) p3) 16))))) 43⟩, ⟨g2, .cells (av 16 (w32 (fun _ => 0))) 43⟩] u8 := M
  refine pl_nil ?_
  replace M : Mem ⟨w, []⟩ [⟨g1, .cells (av 16 (w32 (e3 v p0 p1 p3))) 43⟩, ⟨g2, .cells (av 16 (w32 (fun _ => 0))) 43⟩] u8 := M
  refine au_then ?_
  refine wp_seq ?_
  refine rg_tail M 9 (by kernel_rfl) (by kernel_rfl) ?_
  simp only [List.take_succ_cons, List.take_zero]
  refine k_val (want_no rfl) (some 40) rfl (.int .i64 (p2 : Int)) (fun _ => by kernel_rfl) ?_
  refine k_val (want_no rfl) (some 41) rfl (.int .i64 (p2 : Int)) (fun _ => by kernel_rfl) ?_
  refine k_val (want_no rfl) (some 42) rfl (.pointer (some ⟨g1, p2, none⟩)) (run_ix1 43 16 37 Tryd.underlying43 inz37 _ _ rfl g1 (by kernel_rfl) .i64 (p2) (by kernel_rfl) (by omega)) ?_
  refine k_cell M (want_no rfl) (some 43) rfl 37 _ rfl g1 p2 (by kernel_rfl) (.int .u32 ((e3 v p0 p1 p3) p2)) (fun _ => by kernel_rfl) (fun w M => M.cell 0 rfl (by omega) rfl) ?_
  refine k_val (want_no rfl) (some 44) rfl (.int .i64 (p3 : Int)) (fun _ => by kernel_rfl) ?_
  refine k_val (want_no rfl) (some 45) rfl (.pointer (some ⟨g1, p3, none⟩)) (run_ix1 43 16 37 Tryd.underlying43 inz37 _ _ rfl g1 (by kernel_rfl) .i64 (p3) (by kernel_rfl) (by omega)) ?_
  refine k_cell M (want_no rfl) (some 46) rfl 37 _ rfl g1 p3 (by kernel_rfl) (.int .u32 ((e3 v p0 p1 p3) p3)) (fun _ => by kernel_rfl) (fun w M => M.cell 0 rfl (by omega) rfl) ?_
  refine k_val (want_no rfl) (some 47) rfl (.int .u32 (va ((e3 v p0 p1 p3) p2) ((e3 v p0 p1 p3) p3))) (fun _ => by kernel_rfl) ?_
  refine k_val (want_no rfl) (some 48) rfl (.pointer (some ⟨g1, p2, none⟩)) (run_ix1 43 16 37 Tryd.underlying43 inz37 _ _ rfl g1 (by kernel_rfl) .i64 (p2) (by kernel_rfl) (by omega)) ?_
  refine kl_nil ?_
  intro u9 M
  replace M : Mem ⟨w, []⟩ [⟨g1, .cells (av 16 (w32 (e3 v p0 p1 p3))) 43⟩, ⟨g2, .cells (av 16 (w32 (fun _ => 0))) 43⟩] u9 := M
  refine pl_put1 M (want_no rfl) rfl 37 _ _ rfl 0 g1 p2 (by kernel_rfl) 16 43 (w32 (e3 v p0 p1 p3)) rfl (.int .u32 (va ((e3 v p0 p1 p3) p2) ((e3 v p0 p1 p3) p3))) (w32 (upd (e3 v p0 p1 p3) p2 (va ((e3 v p0 p1 p3) p2) ((e3 v p0 p1 p3) p3)))) (by kernel_rfl) inz37 (by omega) rfl rfl (fun j _ => put_w32 _ _ _ j) ?_
  intro u10 M
  replace M : Mem ⟨w, []⟩ [⟨g1, .cells (av 16 (w32 (upd (e3 v p0 p1 p3) p2 (va ((e3 v p0 p1 p3) p2) ((e3 v p0 p1 p3) p3))))) 43⟩, ⟨g2, .cells (av 16 (w32 (fun _ => 0))) 43⟩] u10 := M
  refine pl_nil ?_
  replace M : Mem ⟨w, []⟩ [⟨g1, .cells (av 16 (w32 (e4 v p0 p1 p2 p3))) 43⟩, ⟨g2, .cells (av 16 (w32 (fun _ => 0))) 43⟩] u10 := M
  refine au_then ?_
  refine wp_seq ?_
  refine rg_tail M 9 (by kernel_rfl) (by kernel_rfl) ?_
  simp only [List.take_succ_cons, List.take_zero]
  refine k_val (want_no rfl) (some 49) rfl (.int .i64 (p1 : Int)) (fun _ => by kernel_rfl) ?_
  refine k_val (want_no rfl) (some 50) rfl (.int .i64 (p1 : Int)) (fun _ => by kernel_rfl) ?_
  refine k_val (want_no rfl) (some 51) rfl (.pointer (some ⟨g1, p1, none⟩)) (run_ix1 43 16 37 Tryd.underlying43 inz37 _ _ rfl g1 (by kernel_rfl) .i64 (p1) (by kernel_rfl) (by omega)) ?_
  refine k_cell M (want_no rfl) (some 52) rfl 37 _ rfl g1 p1 (by kernel_rfl) (.int .u32 ((e4 v p0 p1 p2 p3) p1)) (fun _ => by kernel_rfl) (fun w M => M.cell 0 rfl (by omega) rfl) ?_
  refine k_val (want_no rfl) (some 53) rfl (.int .i64 (p2 : Int)) (fun _ => by kernel_rfl) ?_
  refine k_val (want_no rfl) (some 54) rfl (.pointer (some ⟨g1, p2, none⟩)) (run_ix1 43 16 37 Tryd.underlying43 inz37 _ _ rfl g1 (by kernel_rfl) .i64 (p2) (by kernel_rfl) (by omega)) ?_
  refine k_cell M (want_no rfl) (some 55) rfl 37 _ rfl g1 p2 (by kernel_rfl) (.int .u32 ((e4 v p0 p1 p2 p3) p2)) (fun _ => by kernel_rfl) (fun w M => M.cell 0 rfl (by omega) rfl) ?_
  refine k_val (want_no rfl) (some 56) rfl (.int .u32 (vx ((e4 v p0 p1 p2 p3) p1) ((e4 v p0 p1 p2 p3) p2))) (fun _ => by kernel_rfl) ?_
  refine k_val (want_no rfl) (some 57) rfl (.pointer (some ⟨g1, p1, none⟩)) (run_ix1 43 16 37 Tryd.underlying43 inz37 _ _ rfl g1 (by kernel_rfl) .i64 (p1) (by kernel_rfl) (by omega)) ?_
  refine kl_nil ?_
  intro u11 M
  replace M : Mem ⟨w, []⟩ [⟨g1, .cells (av 16 (w32 (e4 v p0 p1 p2 p3))) 43⟩, ⟨g2, .cells (av 16 (w32 (fun _ => 0))) 43⟩] u11 := M
  refine pl_put1 M (want_no rfl) rfl 37 _ _ rfl 0 g1 p1 (by kernel_rfl) 16 43 (w32 (e4 v p0 p1 p2 p3)) rfl (.int .u32 (vx ((e4 v p0 p1 p2 p3) p1) ((e4 v p0 p1 p2 p3) p2))) (w32 (upd (e4 v p0 p1 p2 p3) p1 (vx ((e4 v p0 p1 p2 p3) p1) ((e4 v p0 p1 p2 p3) p2)))) (by kernel_rfl) inz37 (by omega) rfl rfl (fun j _ => put_w32 _ _ _ j) ?_
  intro u12 M
  replace M : Mem ⟨w, []⟩ [⟨g1, .cells (av 16 (w32 (upd (e4 v p0 p1 p2 p3) p1 (vx ((e4 v p0 p1 p2 p3) p1) ((e4 v p0 p1 p2 p3) p2))))) 43⟩, ⟨g2, .cells (av 16 (w32 (fun _ => 0))) 43⟩] u12 := M
  refine pl_nil ?_
  replace M : Mem ⟨w, []⟩ [⟨g1, .cells (av 16 (w32 (e5 v p0 p1 p2 p3))) 43⟩, ⟨g2, .cells (av 16 (w32 (fun _ => 0))) 43⟩] u12 := M
  refine au_then ?_
  refine wp_seq ?_
  refine rg_tail M 11 (by kernel_rfl) (by kernel_rfl) ?_
  simp only [List.take_succ_cons, List.take_zero]
  refine k_val (want_no rfl) (some 58) rfl (.int .i64 (p1 : Int)) (fun _ => by kernel_rfl) ?_
  refine k_val (want_no rfl) (some 59) rfl (.int .i64 (p1 : Int)) (fun _ => by kernel_rfl) ?_
  refine k_val (want_no rfl) (some 60) rfl (.pointer (some ⟨g1, p1, none⟩)) (run_ix1 43 16 37 Tryd.underlying43 inz37 _ _ rfl g1 (by kernel_rfl) .i64 (p1) (by kernel_rfl) (by omega)) ?_
  refine k_cell M (want_no rfl) (some 61) rfl 37 _ rfl g1 p1 (by kernel_rfl) (.int .u32 ((e5 v p0 p1 p2 p3) p1)) (fun _ => by kernel_rfl) (fun w M => M.cell 0 rfl (by omega) rfl) ?_
  refine k_val (want_no rfl) (some 62) rfl (.int .u32 (vl ((e5 v p0 p1 p2 p3) p1) 12)) (fun _ => by kernel_rfl) ?_
  refine k_val (want_no rfl) (some 63) rfl (.int .i64 (p1 : Int)) (fun _ => by kernel_rfl) ?_
  refine k_val (want_no rfl) (some 64) rfl (.pointer (some ⟨g1, p1, none⟩)) (run_ix1 43 16 37 Tryd.underlying43 inz37 _ _ rfl g1 (by kernel_rfl) .i64 (p1) (by kernel_rfl) (by omega)) ?_
  refine k_cell M (want_no rfl) (some 65) rfl 37 _ rfl g1 p1 (by kernel_rfl) (.int .u32 ((e5 v p0 p1 p2 p3) p1)) (fun _ => by kernel_rfl) (fun w M => M.cell 0 rfl (by omega) rfl) ?_
  refine k_val (want_no rfl) (some 66) rfl (.int .u32 (sr ((e5 v p0 p1 p2 p3) p1) 20)) (fun _ => by kernel_rfl) ?_
  refine k_val (want_no rfl) (some 67) rfl (.int .u32 (vo (vl ((e5 v p0 p1 p2 p3) p1) 12) (sr ((e5 v p0 p1 p2 p3) p1) 20))) (fun _ => by kernel_rfl) ?_
  refine k_val (want_no rfl) (some 68) rfl (.pointer (some ⟨g1, p1, none⟩)) (run_ix1 43 16 37 Tryd.underlying43 inz37 _ _ rfl g1 (by kernel_rfl) .i64 (p1) (by kernel_rfl) (by omega)) ?_
  refine kl_nil ?_
  intro u13 M
  replace M : Mem ⟨w, []⟩ [⟨g1, .cells (av 16 (w32 (e5 v p0 p1 p2 p3))) 43⟩, ⟨g2, .cells (av 16 (w32 (fun _ => 0))) 43⟩] u13 := M
  refine pl_put1 M (want_no rfl) rfl 37 _ _ rfl 0 g1 p1 (by kernel_rfl) 16 43 (w32 (e5 v p0 p1 p2 p3)) rfl (.int .u32 (vo (vl ((e5 v p0 p1 p2 p3) p1) 12) (sr ((e5 v p0 p1 p2 p3) p1) 20))) (w32 (upd (e5 v p0 p1 p2 p3) p1 (vo (vl ((e5 v p0 p1 p2 p3) p1) 12) (sr ((e5 v p0 p1 p2 p3) p1) 20)))) (by kernel_rfl) inz37 (by omega) rfl rfl (fun j _ => put_w32 _ _ _ j) ?_
  intro u14 M
  replace M : Mem ⟨w, []⟩ [⟨g1, .cells (av 16 (w32 (upd (e5 v p0 p1 p2 p3) p1 (vo (vl ((e5 v p0 p1 p2 p3) p1) 12) (sr ((e5 v p0 p1 p2 p3) p1) 20))))) 43⟩, ⟨g2, .cells (av 16 (w32 (fun _ => 0))) 43⟩] u14 := M
  refine pl_nil ?_
  replace M : Mem ⟨w, []⟩ [⟨g1, .cells (av 16 (w32 (e6 v p0 p1 p2 p3))) 43⟩, ⟨g2, .cells (av 16 (w32 (fun _ => 0))) 43⟩] u14 := M
  refine au_then ?_
  refine wp_seq ?_
  refine rg_tail M 9 (by kernel_rfl) (by kernel_rfl) ?_
  simp only [List.take_succ_cons, List.take_zero]
  refine k_val (want_no rfl) (some 69) rfl (.int .i64 (p0 : Int)) (fun _ => by kernel_rfl) ?_
  refine k_val (want_no rfl) (some 70) rfl (.int .i64 (p0 : Int)) (fun _ => by kernel_rfl) ?_
  refine k_val (want_no rfl) (some 71) rfl (.pointer (some ⟨g1, p0, none⟩)) (run_ix1 43 16 37 Tryd.underlying43 inz37 _ _ rfl g1 (by kernel_rfl) .i64 (p0) (by kernel_rfl) (by omega)) ?_
  refine k_cell M (want_no rfl) (some 72) rfl 37 _ rfl g1 p0 (by kernel_rfl) (.int .u32 ((e6 v p0 p1 p2 p3) p0)) (fun _ => by kernel_rfl) (fun w M => M.cell 0 rfl (by omega) rfl) ?_
  refine k_val (want_no rfl) (some 73) rfl (.int .i64 (p1 : Int)) (fun _ => by kernel_rfl) ?_
  refine k_val (want_no rfl) (some 74) rfl (.pointer (some ⟨g1, p1, none⟩)) (run_ix1 43 16 37 Tryd.underlying43 inz37 _ _ rfl g1 (by kernel_rfl) .i64 (p1) (by kernel_rfl) (by omega)) ?_
  refine k_cell M (want_no rfl) (some 75) rfl 37 _ rfl g1 p1 (by kernel_rfl) (.int .u32 ((e6 v p0 p1 p2 p3) p1)) (fun _ => by kernel_rfl) (fun w M => M.cell 0 rfl (by omega) rfl) ?_
  refine k_val (want_no rfl) (some 76) rfl (.int .u32 (va ((e6 v p0 p1 p2 p3) p0) ((e6 v p0 p1 p2 p3) p1))) (fun _ => by kernel_rfl) ?_
  refine k_val (want_no rfl) (some 77) rfl (.pointer (some ⟨g1, p0, none⟩)) (run_ix1 43 16 37 Tryd.underlying43 inz37 _ _ rfl g1 (by kernel_rfl) .i64 (p0) (by kernel_rfl) (by omega)) ?_
  refine kl_nil ?_
  intro u15 M
  replace M : Mem ⟨w, []⟩ [⟨g1, .cells (av 16 (w32 (e6 v p0 p1 p2 p3))) 43⟩, ⟨g2, .cells (av 16 (w32 (fun _ => 0))) 43⟩] u15 := M
  refine pl_put1 M (want_no rfl) rfl 37 _ _ rfl 0 g1 p0 (by kernel_rfl) 16 43 (w32 (e6 v p0 p1 p2 p3)) rfl (.int .u32 (va ((e6 v p0 p1 p2 p3) p0) ((e6 v p0 p1 p2 p3) p1))) (w32 (upd (e6 v p0 p1 p2 p3) p0 (va ((e6 v p0 p1 p2 p3) p0) ((e6 v p0 p1 p2 p3) p1)))) (by kernel_rfl) inz37 (by omega) rfl rfl (fun j _ => put_w32 _ _ _ j) ?_
  intro u16 M
  replace M : Mem ⟨w, []⟩ [⟨g1, .cells (av 16 (w32 (upd (e6 v p0 p1 p2 p3) p0 (va ((e6 v p0 p1 p2 p3) p0) ((e6 v p0 p1 p2 p3) p1))))) 43⟩, ⟨g2, .cells (av 16 (w32 (fun _ => 0))) 43⟩] u16 := M
  refine pl_nil ?_
  replace M : Mem ⟨w, []⟩ [⟨g1, .cells (av 16 (w32 (e7 v p0 p1 p2 p3))) 43⟩, ⟨g2, .cells (av 16 (w32 (fun _ => 0))) 43⟩] u16 := M
  refine au_then ?_
  refine wp_seq ?_
  refine rg_tail M 9 (by kernel_rfl) (by kernel_rfl) ?_
  simp only [List.take_succ_cons, List.take_zero]
  refine k_val (want_no rfl) (some 78) rfl (.int .i64 (p3 : Int)) (fun _ => by kernel_rfl) ?_
  refine k_val (want_no rfl) (some 79) rfl (.int .i64 (p3 : Int)) (fun _ => by kernel_rfl) ?_
  refine k_val (want_no rfl) (some 80) rfl (.pointer (some ⟨g1, p3, none⟩)) (run_ix1 43 16 37 Tryd.underlying43 inz37 _ _ rfl g1 (by kernel_rfl) .i64 (p3) (by kernel_rfl) (by omega)) ?_
  refine k_cell M (want_no rfl) (some 81) rfl 37 _ rfl g1 p3 (by kernel_rfl) (.int .u32 ((e7 v p0 p1 p2 p3) p3)) (fun _ => by kernel_rfl) (fun w M => M.cell 0 rfl (by omega) rfl) ?_
  refine k_val (want_no rfl) (some 82) rfl (.int .i64 (p0 : Int)) (fun _ => by kernel_rfl) ?_
  refine k_val (want_no rfl) (some 83) rfl (.pointer (some ⟨g1, p0, none⟩)) (run_ix1 43 16 37 Tryd.underlying43 inz37 _ _ rfl g1 (by kernel_rfl) .i64 (p0) (by kernel_rfl) (by omega)) ?_
  refine k_cell M (want_no rfl) (some 84) rfl 37 _ rfl g1 p0 (by kernel_rfl) (.int .u32 ((e7 v p0 p1 p2 p3) p0)) (fun _ => by kernel_rfl) (fun w M => M.cell 0 rfl (by omega) rfl) ?_
  refine k_val (want_no rfl) (some 85) rfl (.int .u32 (vx ((e7 v p0 p1 p2 p3) p3) ((e7 v p0 p1 p2 p3) p0))) (fun _ => by kernel_rfl) ?_
  refine k_val (want_no rfl) (some 86) rfl (.pointer (some ⟨g1, p3, none⟩)) (run_ix1 43 16 37 Tryd.underlying43 inz37 _ _ rfl g1 (by kernel_rfl) .i64 (p3) (by kernel_rfl) (by omega)) ?_
  refine kl_nil ?_
  intro u17 M
  replace M : Mem ⟨w, []⟩ [⟨g1, .cells (av 16 (w32 (e7 v p0 p1 p2 p3))) 43⟩, ⟨g2, .cells (av 16 (w32 (fun _ => 0))) 43⟩] u17 := M
  refine pl_put1 M (want_no rfl) rfl 37 _ _ rfl 0 g1 p3 (by kernel_rfl) 16 43 (w32 (e7 v p0 p1 p2 p3)) rfl (.int .u32 (vx ((e7 v p0 p1 p2 p3) p3) ((e7 v p0 p1 p2 p3) p0))) (w32 (upd (e7 v p0 p1 p2 p3) p3 (vx ((e7 v p0 p1 p2 p3) p3) ((e7 v p0 p1 p2 p3) p0)))) (by kernel_rfl) inz37 (by omega) rfl rfl (fun j _ => put_w32 _ _ _ j) ?_
  intro u18 M
  replace M : Mem ⟨w, []⟩ [⟨g1, .cells (av 16 (w32 (upd (e7 v p0 p1 p2 p3) p3 (vx ((e7 v p0 p1 p2 p3) p3) ((e7 v p0 p1 p2 p3) p0))))) 43⟩, ⟨g2, .cells (av 16 (w32 (fun _ => 0))) 43⟩] u18 := M
  refine pl_nil ?_
  replace M : Mem ⟨w, []⟩ [⟨g1, .cells (av 16 (w32 (e8 v p0 p1 p2 p3))) 43⟩, ⟨g2, .cells (av 16 (w32 (fun _ => 0))) 43⟩] u18 := M
  refine au_then ?_
  refine wp_seq ?_
  refine rg_tail M 11 (by kernel_rfl) (by kernel_rfl) ?_
  simp only [List.take_succ_cons, List.take_zero]
  refine k_val (want_no rfl) (some 87) rfl (.int .i64 (p3 : Int)) (fun _ => by kernel_rfl) ?_
  refine k_val (want_no rfl) (some 88) rfl (.int .i64 (p3 : Int)) (fun _ => by kernel_rfl) ?_
  refine k_val (want_no rfl) (some 89) rfl (.pointer (some ⟨g1, p3, none⟩)) (run_ix1 43 16 37 Tryd.underlying43 inz37 _ _ rfl g1 (by kernel_rfl) .i64 (p3) (by kernel_rfl) (by omega)) ?_
  refine k_cell M (want_no rfl) (some 90) rfl 37 _ rfl g1 p3 (by kernel_rfl) (.int .u32 ((e8 v p0 p1 p2 p3) p3)) (fun _ => by kernel_rfl) (fun w M => M.cell 0 rfl (by omega) rfl) ?_
  refine k_val (want_no rfl) (some 91) rfl (.int .u32 (vl ((e8 v p0 p1 p2 p3) p3) 8)) (fun _ => by kernel_rfl) ?_
  refine k_val (want_no rfl) (some 92) rfl (.int .i64 (p3 : Int)) (fun _ => by kernel_rfl) ?_
  refine k_val (want_no rfl) (some 93) rfl (.pointer (some ⟨g1, p3, none⟩)) (run_ix1 43 16 37 Tryd.underlying43 inz37 _ _ rfl g1 (by kernel_rfl) .i64 (p3) (by kernel_rfl) (by omega)) ?_
  refine k_cell M (want_no rfl) (some 94) rfl 37 _ rfl g1 p3 (by kernel_rfl) (.int .u32 ((e8 v p0 p1 p2 p3) p3)) (fun _ => by kernel_rfl) (fun w M => M.cell 0 rfl (by omega) rfl) ?_
  refine k_val (want_no rfl) (some 95) rfl (.int .u32 (sr ((e8 v p0 p1 p2 p3) p3) 24)) (fun _ => by kernel_rfl) ?_
  refine k_val (want_no rfl) (some 96) rfl (.int .u32 (vo (vl ((e8 v p0 p1 p2 p3) p3) 8) (sr ((e8 v p0 p1 p2 p3) p3) 24))) (fun _ => by kernel_rfl) ?_
  refine k_val (want_no rfl) (some 97) rfl (.pointer (some ⟨g1, p3, none⟩)) (run_ix1 43 16 37 Tryd.underlying43 inz37 _ _ rfl g1 (by kernel_rfl) .i64 (p3) (by kernel_rfl) (by omega)) ?_
  refine kl_nil ?_
  intro u19 M
  replace M : Mem ⟨w, []⟩ [⟨g1, .cells (av 16 (w32 (e8 v p0 p1 p2 p3))) 43⟩, ⟨g2, .cells (av 16 (w32 (fun _ => 0))) 43⟩] u19 := M
  refine pl_put1 M (want_no rfl) rfl 37 _ _ rfl 0 g1 p3 (by kernel_rfl) 16 43 (w32 (e8 v p0 p1 p2 p3)) rfl (.int .u32 (vo (vl ((e8 v p0 p1 p2 p3) p3) 8) (sr ((e8 v p0 p1 p2 p3) p3) 24))) (w32 (upd (e8 v p0 p1 p2 p3) p3 (vo (vl ((e8 v p0 p1 p2 p3) p3) 8) (sr ((e8 v p0 p1 p2 p3) p3) 24)))) (by kernel_rfl) inz37 (by omega) rfl rfl (fun j _ => put_w32 _ _ _ j) ?_
  intro u20 M
  replace M : Mem ⟨w, []⟩ [⟨g1, .cells (av 16 (w32 (upd (e8 v p0 p1 p2 p3) p3 (vo (vl ((e8 v p0 p1 p2 p3) p3) 8) (sr ((e8 v p0 p1 p2 p3) p3) 24))))) 43⟩, ⟨g2, .cells (av 16 (w32 (fun _ => 0))) 43⟩] u20 := M
  refine pl_nil ?_
  replace M : Mem ⟨w, []⟩ [⟨g1, .cells (av 16 (w32 (e9 v p0 p1 p2 p3))) 43⟩, ⟨g2, .cells (av 16 (w32 (fun _ => 0))) 43⟩] u20 := M
  refine au_then ?_
  refine wp_seq ?_
  refine rg_tail M 9 (by kernel_rfl) (by kernel_rfl) ?_
  simp only [List.take_succ_cons, List.take_zero]
  refine k_val (want_no rfl) (some 98) rfl (.int .i64 (p2 : Int)) (fun _ => by kernel_rfl) ?_
  refine k_val (want_no rfl) (some 99) rfl (.int .i64 (p2 : Int)) (fun _ => by kernel_rfl) ?_
  refine k_val (want_no rfl) (some 100) rfl (.pointer (some ⟨g1, p2, none⟩)) (run_ix1 43 16 37 Tryd.underlying43 inz37 _ _ rfl g1 (by kernel_rfl) .i64 (p2) (by kernel_rfl) (by omega)) ?_
  refine k_cell M (want_no rfl) (some 101) rfl 37 _ rfl g1 p2 (by kernel_rfl) (.int .u32 ((e9 v p0 p1 p2 p3) p2)) (fun _ => by kernel_rfl) (fun w M => M.cell 0 rfl (by omega) rfl) ?_
  refine k_val (want_no rfl) (some 102) rfl (.int .i64 (p3 : Int)) (fun _ => by kernel_rfl) ?_
  refine k_val (want_no rfl) (some 103) rfl (.pointer (some ⟨g1, p3, none⟩)) (run_ix1 43 16 37 Tryd.underlying43 inz37 _ _ rfl g1 (by kernel_rfl) .i64 (p3) (by kernel_rfl) (by omega)) ?_
  refine k_cell M (want_no rfl) (some 104) rfl 37 _ rfl g1 p3 (by kernel_rfl) (.int .u32 ((e9 v p0 p1 p2 p3) p3)) (fun _ => by kernel_rfl) (fun w M => M.cell 0 rfl (by omega) rfl) ?_
  refine k_val (want_no rfl) (some 105) rfl (.int .u32 (va ((e9 v p0 p1 p2 p3) p2) ((e9 v p0 p1 p2 p3) p3))) (fun _ => by kernel_rfl) ?_
  refine k_val (want_no rfl) (some 106) rfl (.pointer (some ⟨g1, p2, none⟩)) (run_ix1 43 16 37 Tryd.underlying43 inz37 _ _ rfl g1 (by kernel_rfl) .i64 (p2) (by kernel_rfl) (by omega)) ?_
  refine kl_nil ?_
  intro u21 M
  replace M : Mem ⟨w, []⟩ [⟨g1, .cells (av 16 (w32 (e9 v p0 p1 p2 p3))) 43⟩, ⟨g2, .cells (av 16 (w32 (fun _ => 0))) 43⟩] u21 := M
  refine pl_put1 M (want_no rfl) rfl 37 _ _ rfl 0 g1 p2 (by kernel_rfl) 16 43 (w32 (e9 v p0 p1 p2 p3)) rfl (.int .u32 (va ((e9 v p0 p1 p2 p3) p2) ((e9 v p0 p1 p2 p3) p3))) (w32 (upd (e9 v p0 p1 p2 p3) p2 (va ((e9 v p0 p1 p2 p3) p2) ((e9 v p0 p1 p2 p3) p3)))) (by kernel_rfl) inz37 (by omega) rfl rfl (fun j _ => put_w32 _ _ _ j) ?_
  intro u22 M
  replace M : Mem ⟨w, []⟩ [⟨g1, .cells (av 16 (w32 (upd (e9 v p0 p1 p2 p3) p2 (va ((e9 v p0 p1 p2 p3) p2) ((e9 v p0 p1 p2 p3) p3))))) 43⟩, ⟨g2, .cells (av 16 (w32 (fun _ => 0))) 43⟩] u22 := M
  refine pl_nil ?_
  replace M : Mem ⟨w, []⟩ [⟨g1, .cells (av 16 (w32 (e10 v p0 p1 p2 p3))) 43⟩, ⟨g2, .cells (av 16 (w32 (fun _ => 0))) 43⟩] u22 := M
  refine au_then ?_
  refine wp_seq ?_
  refine rg_tail M 9 (by kernel_rfl) (by kernel_rfl) ?_
  simp only [List.take_succ_cons, List.take_zero]
  refine k_val (want_no rfl) (some 107) rfl (.int .i64 (p1 : Int)) (fun _ => by kernel_rfl) ?_
  refine k_val (want_no rfl) (some 108) rfl (.int .i64 (p1 : Int)) (fun _ => by kernel_rfl) ?_
  refine k_val (want_no rfl) (some 109) rfl (.pointer (some ⟨g1, p1, none⟩)) (run_ix1 43 16 37 Tryd.underlying43 inz37 _ _ rfl g1 (by kernel_rfl) .i64 (p1) (by kernel_rfl) (by omega)) ?_
  refine k_cell M (want_no rfl) (some 110) rfl 37 _ rfl g1 p1 (by kernel_rfl) (.int .u32 ((e10 v p0 p1 p2 p3) p1)) (fun _ => by kernel_rfl) (fun w M => M.cell 0 rfl (by omega) rfl) ?_
  refine k_val (want_no rfl) (some 111) rfl (.int .i64 (p2 : Int)) (fun _ => by kernel_rfl) ?_
  refine k_val (want_no rfl) (some 112) rfl (.pointer (some ⟨g1, p2, none⟩)) (run_ix1 43 16 37 Tryd.underlying43 inz37 _ _ rfl g1 (by kernel_rfl) .i64 (p2) (by kernel_rfl) (by omega)) ?_
  refine k_cell M (want_no rfl) (some 113) rfl 37 _ rfl g1 p2 (by kernel_rfl) (.int .u32 ((e10 v p0 p1 p2 p3) p2)) (fun _ => by kernel_rfl) (fun w M => M.cell 0 rfl (by omega) rfl) ?_
  refine k_val (want_no rfl) (some 114) rfl (.int .u32 (vx ((e10 v p0 p1 p2 p3) p1) ((e10 v p0 p1 p2 p3) p2))) (fun _ => by kernel_rfl) ?_
  refine k_val (want_no rfl) (some 115) rfl (.pointer (some ⟨g1, p1, none⟩)) (run_ix1 43 16 37 Tryd.underlying43 inz37 _ _ rfl g1 (by kernel_rfl) .i64 (p1) (by kernel_rfl) (by omega)) ?_
  refine kl_nil ?_
  intro u23 M
  replace M : Mem ⟨w, []⟩ [⟨g1, .cells (av 16 (w32 (e10 v p0 p1 p2 p3))) 43⟩, ⟨g2, .cells (av 16 (w32 (fun _ => 0))) 43⟩] u23 := M
  refine pl_put1 M (want_no rfl) rfl 37 _ _ rfl 0 g1 p1 (by kernel_rfl) 16 43 (w32 (e10 v p0 p1 p2 p3)) rfl (.int .u32 (vx ((e10 v p0 p1 p2 p3) p1) ((e10 v p0 p1 p2 p3) p2))) (w32 (upd (e10 v p0 p1 p2 p3) p1 (vx ((e10 v p0 p1 p2 p3) p1) ((e10 v p0 p1 p2 p3) p2)))) (by kernel_rfl) inz37 (by omega) rfl rfl (fun j _ => put_w32 _ _ _ j) ?_
  intro u24 M
  replace M : Mem ⟨w, []⟩ [⟨g1, .cells (av 16 (w32 (upd (e10 v p0 p1 p2 p3) p1 (vx ((e10 v p0 p1 p2 p3) p1) ((e10 v p0 p1 p2 p3) p2))))) 43⟩, ⟨g2, .cells (av 16 (w32 (fun _ => 0))) 43⟩] u24 := M
  refine pl_nil ?_
  replace M : Mem ⟨w, []⟩ [⟨g1, .cells (av 16 (w32 (e11 v p0 p1 p2 p3))) 43⟩, ⟨g2, .cells (av 16 (w32 (fun _ => 0))) 43⟩] u24 := M
  refine au_then ?_
  refine wp_seq ?_
  refine rg_tail M 11 (by kernel_rfl) (by kernel_rfl) ?_
  simp only [List.take_succ_cons, List.take_zero]
  refine k_val (want_no rfl) (some 116) rfl (.int .i64 (p1 : Int)) (fun _ => by kernel_rfl) ?_
  refine k_val (want_no rfl) (some 117) rfl (.int .i64 (p1 : Int)) (fun _ => by kernel_rfl) ?_
  refine k_val (want_no rfl) (some 118) rfl (.pointer (some ⟨g1, p1, none⟩)) (run_ix1 43 16 37 Tryd.underlying43 inz37 _ _ rfl g1 (by kernel_rfl) .i64 (p1) (by kernel_rfl) (by omega)) ?_
  refine k_cell M (want_no rfl) (some 119) rfl 37 _ rfl g1 p1 (by kernel_rfl) (.int .u32 ((e11 v p0 p1 p2 p3) p1)) (fun _ => by kernel_rfl) (fun w M => M.cell 0 rfl (by omega) rfl) ?_
  refine k_val (want_no rfl) (some 120) rfl (.int .u32 (vl ((e11 v p0 p1 p2 p3) p1) 7)) (fun _ => by kernel_rfl) ?_
  refine k_val (want_no rfl) (some 121) rfl (.int .i64 (p1 : Int)) (fun _ => by kernel_rfl) ?_
  refine k_val (want_no rfl) (some 122) rfl (.pointer (some ⟨g1, p1, none⟩)) (run_ix1 43 16 37 Tryd.underlying43 inz37 _ _ rfl g1 (by kernel_rfl) .i64 (p1) (by kernel_rfl) (by omega)) ?_
  refine k_cell M (want_no rfl) (some 123) rfl 37 _ rfl g1 p1 (by kernel_rfl) (.int .u32 ((e11 v p0 p1 p2 p3) p1)) (fun _ => by kernel_rfl) (fun w M => M.cell 0 rfl (by omega) rfl) ?_
  refine k_val (want_no rfl) (some 124) rfl (.int .u32 (sr ((e11 v p0 p1 p2 p3) p1) 25)) (fun _ => by kernel_rfl) ?_
  refine k_val (want_no rfl) (some 125) rfl (.int .u32 (vo (vl ((e11 v p0 p1 p2 p3) p1) 7) (sr ((e11 v p0 p1 p2 p3) p1) 25))) (fun _ => by kernel_rfl) ?_
  refine k_val (want_no rfl) (some 126) rfl (.pointer (some ⟨g1, p1, none⟩)) (run_ix1 43 16 37 Tryd.underlying43 inz37 _ _ rfl g1 (by kernel_rfl) .i64 (p1) (by kernel_rfl) (by omega)) ?_
  refine kl_nil ?_
  intro u25 M
  replace M : Mem ⟨w, []⟩ [⟨g1, .cells (av 16 (w32 (e11 v p0 p1 p2 p3))) 43⟩, ⟨g2, .cells (av 16 (w32 (fun _ => 0))) 43⟩] u25 := M
  refine pl_put1 M (want_no rfl) rfl 37 _ _ rfl 0 g1 p1 (by kernel_rfl) 16 43 (w32 (e11 v p0 p1 p2 p3)) rfl (.int .u32 (vo (vl ((e11 v p0 p1 p2 p3) p1) 7) (sr ((e11 v p0 p1 p2 p3) p1) 25))) (w32 (upd (e11 v p0 p1 p2 p3) p1 (vo (vl ((e11 v p0 p1 p2 p3) p1) 7) (sr ((e11 v p0 p1 p2 p3) p1) 25)))) (by kernel_rfl) inz37 (by omega) rfl rfl (fun j _ => put_w32 _ _ _ j) ?_
  intro u26 M
  replace M : Mem ⟨w, []⟩ [⟨g1, .cells (av 16 (w32 (upd (e11 v p0 p1 p2 p3) p1 (vo (vl ((e11 v p0 p1 p2 p3) p1) 7) (sr ((e11 v p0 p1 p2 p3) p1) 25))))) 43⟩, ⟨g2, .cells (av 16 (w32 (fun _ => 0))) 43⟩] u26 := M
  refine pl_nil ?_
  replace M : Mem ⟨w, []⟩ [⟨g1, .cells (av 16 (w32 (e12 v p0 p1 p2 p3))) 43⟩, ⟨g2, .cells (av 16 (w32 (fun _ => 0))) 43⟩] u26 := M
  refine au_then ?_
  refine wp_seq ?_
  refine rg_lit ?_
  refine pl_load M (want_no rfl) (some 127) rfl 43 _ rfl 0 g1 0 (by kernel_rfl) 16 43 (w32 (e12 v p0 p1 p2 p3)) rfl 16 (w32 (e12 v p0 p1 p2 p3)) (fun j _ => by rw [Nat.zero_add]) (by decide) _ Tryd.underlying43 rfl inz43 ?_
  refine pl_put M (want_no rfl) rfl 43 _ _ rfl 1 g2 0 (by kernel_rfl) 16 43 (w32 (fun _ => 0)) rfl 16 (w32 (e12 v p0 p1 p2 p3)) (w32 (e12 v p0 p1 p2 p3)) (by kernel_rfl) inz43 (by decide) (fun _ _ => rfl) (fun j hj => by rw [if_pos (by omega), Nat.sub_zero]) ?_
  intro u27 M
  replace M : Mem ⟨w, []⟩ [⟨g1, .cells (av 16 (w32 (e12 v p0 p1 p2 p3))) 43⟩, ⟨g2, .cells (av 16 (w32 (e12 v p0 p1 p2 p3))) 43⟩] u27 := M
  refine pl_nil ?_
  refine au_then ?_
  refine wp_ret ?_
  refine bodyPost_ret (v := .agg (av 16 (w32 (mxF v p0 p1 p2 p3)))) (Eq.trans (b := .ok (.agg (av 16 (w32 (e12 v p0 p1 p2 p3)))) _) (results_cell_row Tryd.results49 _ _ g2 43 (av 16 (w32 (e12 v p0 p1 p2 p3))) (0, 0) _ (by kernel_rfl) (M.get 1 rfl) Tryd.underlying43 rfl (by rw [av_size]; exact inz43)) (by rw [e12_eq v p0 p1 p2 p3 d0 d1 d2 d3 d4 d5])) (by kernel_rfl) ⟨rfl, below_grown M.old⟩

/-- The bytes of a number. -/
def nb (n : Int) : Nat → Int
  | 0 => cv .u8 n
  | 1 => cv .u8 (sr n 8)
  | 2 => cv .u8 (sr n 16)
  | 3 => cv .u8 (sr n 24)
  | _ => 0
theorem cv8_nn (x : Int) : 0 ≤ cv .u8 x ∧ cv .u8 x < 256 := by
  unfold cv
  simp [IntKind.wrap, IntKind.signed, IntKind.bits]
  omega
theorem nb_nn (n : Int) : ∀ x ∈ (List.range 4).map (nb n), 0 ≤ x ∧ x < 256 := fun x hx => by
  obtain ⟨i, hi, rfl⟩ := List.mem_map.1 hx
  have hi := List.mem_range.1 hi
  rcases i with _ | _ | _ | _ | i
  · exact cv8_nn _
  · exact cv8_nn _
  · exact cv8_nn _
  · exact cv8_nn _
  · omega
def nB (n : Int) : ByteArray := bs ((List.range 4).map (nb n))
theorem nB_size (n : Int) : (nB n).size = 4 := by
  unfold nB
  rw [bs_size]
  rfl
/-- All bytes that a block begins with. -/
def alS (key nonce : ByteArray) (n : Int) : ByteArray := strK ++ key ++ nB n ++ nonce
theorem strK_size : strK.size = 16 := rfl
theorem alS_size (key nonce : ByteArray) (n : Int) (hk : key.size = 32) (hn : nonce.size = 12) : (alS key nonce n).size = 64 := by
  unfold alS
  rw [ByteArray.size_append, ByteArray.size_append, ByteArray.size_append, nB_size, strK_size, hk, hn]
/-- Their words, up to a place. -/
def dx (al : ByteArray) : Nat → (Nat → Int)
  | 0 => fun _ => 0
  | j + 1 => upd (dx al j) j (wd4 (al.extract (4 * j) (4 * j + 4)))
def dk (x : Nat → Int) : Nat → (Nat → Int)
  | 0 => fun _ => 0
  | j + 1 => upd (dk x j) j (cv .u8 (sr (va (x (j / 4)) (rd x 10 (j / 4))) (8 * (j % 4))))
def dbl (x : Nat → Int) (i : Nat) : Int := cv .u8 (sr (va (x (i / 4)) (rd x 10 (i / 4))) (8 * (i % 4)))
theorem dk_at (x : Nat → Int) : ∀ n, ∀ i, i < n → dk x n i = dbl x i
  | 0, i, h => absurd h (by omega)
  | n + 1, i, h => by
    unfold dk upd
    by_cases e : i = n
    · rw [if_pos e, e]
      rfl
    · rw [if_neg e, dk_at x n i (by omega)]
theorem dk_map (x : Nat → Int) : (List.range 64).map (dk x 64) = (List.range 64).map (dbl x) := List.map_congr_left fun i hi => dk_at x 64 i (List.mem_range.1 hi)
theorem dbl_nn (x : Nat → Int) : ∀ y ∈ (List.range 64).map (dbl x), 0 ≤ y ∧ y < 256 := fun y hy => by
  obtain ⟨i, _, rfl⟩ := List.mem_map.1 hy
  exact cv8_nn _
/-- The document's block. -/
def dbk (key nonce : ByteArray) (n : Int) : ByteArray := bs ((List.range 64).map (dbl (dx (alS key nonce n) 16)))
theorem dbk_size (key nonce : ByteArray) (n : Int) : (dbk key nonce n).size = 64 := by
  unfold dbk
  rw [bs_size]
  simp

set_option maxRecDepth 100000 in
set_option maxHeartbeats 4000000 in
theorem d_Block (key nonce : ByteArray) (n : Int) (hk : key.size = 32) (hn : nonce.size = 12) (w : World) (hL : Laid w)  :
    Calls Tryd.prog 29 #[.string key, .string nonce, .int .u32 n] w fun r w' => r = .returned (.string (dbk key nonce n)) ∧ Below w.heap.size w w' := by
  go_enter Tryd.func29, Tryd.ntmps29
  have M := Mem.start hL
  refine wp_seq ?_
  refine rg_lit ?_
  refine pl_val (want_no rfl) (some 6) rfl (.string ⟨#[]⟩) (fun _ => by kernel_rfl) ?_
  refine pl_nil ?_
  refine au_then ?_
  refine wp_seq ?_
  refine rg_lit ?_
  refine pl_val (want_no rfl) (some 14) rfl (.string key) (fun _ => by kernel_rfl) ?_
  refine pl_val (want_no rfl) (some 15) rfl (.string (strK ++ key)) (run_cat 9 9 _ _ rfl strK key (by kernel_rfl) (by kernel_rfl) (by rw [strK_size, hk]; decide)) ?_
  refine pl_val (want_no rfl) (some 16) rfl (.int .u32 n) (fun _ => by kernel_rfl) ?_
  refine pl_val (want_no rfl) (some 17) rfl (.int .u8 (cv .u8 n)) (fun _ => by kernel_rfl) ?_
  refine pl_val (want_no rfl) (some 18) rfl (.int .u32 n) (fun _ => by kernel_rfl) ?_
  refine pl_val (want_no rfl) (some 19) rfl (.int .u32 (sr n 8)) (fun _ => by kernel_rfl) ?_
  refine pl_val (want_no rfl) (some 20) rfl (.int .u8 (cv .u8 (sr n 8))) (fun _ => by kernel_rfl) ?_
  refine pl_val (want_no rfl) (some 21) rfl (.int .u32 n) (fun _ => by kernel_rfl) ?_
  refine pl_val (want_no rfl) (some 22) rfl (.int .u32 (sr n 16)) (fun _ => by kernel_rfl) ?_
  refine pl_val (want_no rfl) (some 23) rfl (.int .u8 (cv .u8 (sr n 16))) (fun _ => by kernel_rfl) ?_
  refine pl_val (want_no rfl) (some 24) rfl (.int .u32 n) (fun _ => by kernel_rfl) ?_
  refine pl_val (want_no rfl) (some 25) rfl (.int .u32 (sr n 24)) (fun _ => by kernel_rfl) ?_
  refine pl_val (want_no rfl) (some 26) rfl (.int .u8 (cv .u8 (sr n 24))) (fun _ => by kernel_rfl) ?_
  refine pl_mk M (want_no rfl) (some 27) rfl (fun g1 => .slice (some ⟨g1, 0, none⟩) 4 4) (.cells (av 4 (w8 (nb n))) 5) (fun _ => by kernel_rfl) ?_
  intro g1 u1 M
  replace M : Mem ⟨w, []⟩ [⟨g1, .cells (av 4 (w8 (nb n))) 5⟩] u1 := M
  refine pl_back M (want_no rfl) (some 28) rfl _ rfl 0 g1 4 4 (by kernel_rfl) _ rfl ((List.range 4).map (nb n)) 4 (sb_av 4 _ _) (by simp) (nb_nn _) ?_
  refine pl_val (want_no rfl) (some 29) rfl (.string (strK ++ key ++ nB n)) (run_cat 9 9 _ _ rfl (strK ++ key) (nB n) (by kernel_rfl) (by kernel_rfl) (by rw [ByteArray.size_append, strK_size, hk, nB_size]; decide)) ?_
  refine pl_val (want_no rfl) (some 30) rfl (.string nonce) (fun _ => by kernel_rfl) ?_
  refine pl_val (want_no rfl) (some 31) rfl (.string (alS key nonce n)) (run_cat 9 9 _ _ rfl (strK ++ key ++ nB n) nonce (by kernel_rfl) (by kernel_rfl) (by rw [ByteArray.size_append, ByteArray.size_append, strK_size, hk, nB_size, hn]; decide)) ?_
  refine pl_val (want_no rfl) (some 7) rfl (.string (alS key nonce n)) (fun _ => by kernel_rfl) ?_
  refine pl_nil ?_
  refine au_then ?_
  refine wp_seq ?_
  refine rg_lit ?_
  refine pl_new M (want_no rfl) (some 8) rfl (.cells (av 16 (w32 (fun _ => 0))) 43) (fun _ => by kernel_rfl) ?_
  intro g2 u2 M
  replace M : Mem ⟨w, []⟩ [⟨g1, .cells (av 4 (w8 (nb n))) 5⟩, ⟨g2, .cells (av 16 (w32 (fun _ => 0))) 43⟩] u2 := M
  refine pl_nil ?_
  refine au_then ?_
  refine wp_seq ?_
  refine wp_seq ?_
  refine rg_lit ?_
  refine pl_val (want_no rfl) (some 9) rfl (.int .i64 0) (fun _ => by kernel_rfl) ?_
  refine pl_nil ?_
  refine au_then ?_
  refine wp_block ?_
  refine au_loop (fun j a w' => ∃ v1 : Nat → Value, a = ⟨#[.string key, .string nonce, .int .u32 n, undef, undef, undef, .string ⟨#[]⟩, .string (alS key nonce n), .pointer (some ⟨g2, 0, none⟩), .int .i64 (j : Int), undef, undef, undef, undef, .string key, .string (strK ++ key), .int .u32 n, .int .u8 (cv .u8 n), .int .u32 n, .int .u32 (sr n 8), .int .u8 (cv .u8 (sr n 8)), .int .u32 n, .int .u32 (sr n 16), .int .u8 (cv .u8 (sr n 16)), .int .u32 n, .int .u32 (sr n 24), .int .u8 (cv .u8 (sr n 24)), .slice (some ⟨g1, 0, none⟩) 4 4, .string (nB n), .string (strK ++ key ++ nB n), .string nonce, .string (alS key nonce n), v1 32, v1 33, v1 34, v1 35, v1 36, v1 37, v1 38, v1 39, v1 40, v1 41, v1 42, v1 43, v1 44, v1 45, undef, undef, undef, undef, undef, undef, undef, undef, undef, undef, undef, undef, undef, undef, undef, undef, undef, undef, undef, undef, undef, undef, undef, undef, undef, undef, undef, undef, undef, undef, undef, undef, undef, undef, undef, undef, undef, undef, undef, undef, undef, undef, undef, undef, undef, undef], []⟩ ∧ Mem ⟨w, []⟩ [⟨g1, .cells (av 4 (w8 (nb n))) 5⟩, ⟨g2, .cells (av 16 (w32 (dx (alS key nonce n) j))) 43⟩] w') 16 ⟨fun k_ => ([undef, undef, undef, undef, undef, undef, undef, undef, undef, undef, undef, undef, undef, undef] : List Value).getD (k_ - 32) undef, by kernel_rfl, M⟩ ?_ ?_
  · intro j a u0 hj hI
    obtain ⟨v1, rfl, M⟩ := hI
    refine wp_seq ?_
    refine wp_seq ?_
    refine rg_lit ?_
    refine pl_val (want_no rfl) (some 32) rfl (.int .i64 (j : Int)) (fun _ => by kernel_rfl) ?_
    refine pl_val (want_no rfl) (some 33) rfl (.bool true) (fun w => Eq.trans (b := .ok (.value (.bool (decide ((j : Int) < 16)))) w) (by kernel_rfl) (by rw [decide_eq_true (by omega)])) ?_
    refine pl_nil ?_
    refine au_then ?_
    refine wp_cond_true (by kernel_rfl) ?_
    refine wp_skip ?_
    refine au_then ?_
    refine wp_seq ?_
    refine wp_block ?_
    refine rg_lit ?_
    refine pl_val (want_no rfl) (some 36) rfl (.int .i64 (j : Int)) (fun _ => by kernel_rfl) ?_
    refine pl_val (want_no rfl) (some 37) rfl (.string (alS key nonce n)) (fun _ => by kernel_rfl) ?_
    refine pl_val (want_no rfl) (some 38) rfl (.int .i64 (j : Int)) (fun _ => by kernel_rfl) ?_
    refine pl_val (want_no rfl) (some 39) rfl (.int .i64 ((4 * j : Nat) : Int)) (fun w => Eq.trans (b := .ok (.value (.int .i64 (IntKind.wrap .i64 (4 * (j : Int))))) w) (by kernel_rfl) (by rw [wrap64 (by omega) (by omega)]; congr 3 <;> omega)) ?_
    refine pl_val (want_no rfl) (some 40) rfl (.int .i64 (j : Int)) (fun _ => by kernel_rfl) ?_
    refine pl_val (want_no rfl) (some 41) rfl (.int .i64 ((4 * j : Nat) : Int)) (fun w => Eq.trans (b := .ok (.value (.int .i64 (IntKind.wrap .i64 (4 * (j : Int))))) w) (by kernel_rfl) (by rw [wrap64 (by omega) (by omega)]; congr 3 <;> omega)) ?_
    refine pl_val (want_no rfl) (some 42) rfl (.int .i64 ((4 * j + 4 : Nat) : Int)) (fun w => Eq.trans (b := .ok (.value (.int .i64 (IntKind.wrap .i64 (((4 * j : Nat) : Int) + 4)))) w) (by kernel_rfl) (by rw [wrap64 (by omega) (by omega)]; congr 3 <;> omega)) ?_
    refine pl_val (want_no rfl) (some 43) rfl (.string ((alS key nonce n).extract (4 * j) (4 * j + 4))) (run_strlh 9 Tryd.underlying9 _ _ _ rfl (alS key nonce n) (by kernel_rfl) .i64 .i64 (4 * j) (4 * j + 4) (by kernel_rfl) (by kernel_rfl) (by omega) (by rw [alS_size key nonce n hk hn]; omega)) ?_
    refine pl_call M (want_no rfl) (some 44) rfl 48 #[.string ((alS key nonce n).extract (4 * j) (4 * j + 4))] (.int .u32 (wd4 ((alS key nonce n).extract (4 * j) (4 * j + 4)))) (fun _ => by kernel_rfl) (fun w M => d_word _ (by rw [ByteArray.size_extract, alS_size key nonce n hk hn]; omega) w M.laid) ?_
    intro u3 M
    refine pl_val (want_no rfl) (some 45) rfl (.pointer (some ⟨g2, j, none⟩)) (run_ix1 43 16 37 Tryd.underlying43 inz37 _ _ rfl g2 (by kernel_rfl) .i64 (j) (by kernel_rfl) (by omega)) ?_
    refine pl_put1 M (want_no rfl) rfl 37 _ _ rfl 1 g2 j (by kernel_rfl) 16 43 (w32 (dx (alS key nonce n) j)) rfl (.int .u32 (wd4 ((alS key nonce n).extract (4 * j) (4 * j + 4)))) (w32 (upd (dx (alS key nonce n) j) j (wd4 ((alS key nonce n).extract (4 * j) (4 * j + 4))))) (by kernel_rfl) inz37 (by omega) rfl rfl (fun j _ => put_w32 _ _ _ j) ?_
    intro u4 M
    replace M : Mem ⟨w, []⟩ [⟨g1, .cells (av 4 (w8 (nb n))) 5⟩, ⟨g2, .cells (av 16 (w32 (upd (dx (alS key nonce n) j) j (wd4 ((alS key nonce n).extract (4 * j) (4 * j + 4)))))) 43⟩] u4 := M
    refine pl_nil ?_
    refine au_block ?_
    refine au_then ?_
    refine rg_lit ?_
    refine pl_val (want_no rfl) (some 34) rfl (.int .i64 (j : Int)) (fun _ => by kernel_rfl) ?_
    refine pl_val (want_no rfl) (some 35) rfl (.int .i64 ((j + 1 : Nat) : Int)) (fun w => Eq.trans (b := .ok (.value (.int .i64 (IntKind.wrap .i64 ((j : Int) + 1)))) w) (by kernel_rfl) (by rw [wrap64 (by omega) (by omega)]; congr 3)) ?_
    refine pl_val (want_no rfl) (some 9) rfl (.int .i64 ((j + 1 : Nat) : Int)) (fun _ => by kernel_rfl) ?_
    refine pl_nil ?_
    refine au_then ?_
    exact ⟨fun k_ => ([.int .i64 (j : Int), .bool true, .int .i64 (j : Int), .int .i64 ((j + 1 : Nat) : Int), .int .i64 (j : Int), .string (alS key nonce n), .int .i64 (j : Int), .int .i64 ((4 * j : Nat) : Int), .int .i64 (j : Int), .int .i64 ((4 * j : Nat) : Int), .int .i64 ((4 * j + 4 : Nat) : Int), .string ((alS key nonce n).extract (4 * j) (4 * j + 4)), .int .u32 (wd4 ((alS key nonce n).extract (4 * j) (4 * j + 4))), .pointer (some ⟨g2, j, none⟩)] : List Value).getD (k_ - 32) undef, by kernel_rfl, M⟩
  · intro a u0 hI
    obtain ⟨v1, rfl, M⟩ := hI
    refine wp_seq ?_
    refine wp_seq ?_
    refine rg_lit ?_
    refine pl_val (want_no rfl) (some 32) rfl (.int .i64 (16 : Int)) (fun _ => by kernel_rfl) ?_
    refine pl_val (want_no rfl) (some 33) rfl (.bool false) (fun w => Eq.trans (b := .ok (.value (.bool (decide (16 < 16)))) w) (by kernel_rfl) (by rw [decide_eq_false (by omega)])) ?_
    refine pl_nil ?_
    refine au_then ?_
    refine wp_cond_false (by kernel_rfl) ?_
    refine wp_exit ?_
    refine au_then_exit ?_
    refine au_then_exit ?_
    refine au_block_exit ?_
    refine au_then ?_
    refine wp_seq ?_
    refine rg_lit ?_
    refine pl_load M (want_no rfl) (some 46) rfl 43 _ rfl 1 g2 0 (by kernel_rfl) 16 43 (w32 (dx (alS key nonce n) 16)) rfl 16 (w32 (dx (alS key nonce n) 16)) (fun j _ => by rw [Nat.zero_add]) (by decide) _ Tryd.underlying43 rfl inz43 ?_
    refine pl_new M (want_no rfl) (some 10) rfl (.cells (av 16 (w32 (fun _ => 0))) 43) (fun _ => by kernel_rfl) ?_
    intro g3 u5 M
    replace M : Mem ⟨w, []⟩ [⟨g1, .cells (av 4 (w8 (nb n))) 5⟩, ⟨g2, .cells (av 16 (w32 (dx (alS key nonce n) 16))) 43⟩, ⟨g3, .cells (av 16 (w32 (fun _ => 0))) 43⟩] u5 := M
    refine pl_put M (want_no rfl) rfl 43 _ _ rfl 2 g3 0 (by kernel_rfl) 16 43 (w32 (fun _ => 0)) rfl 16 (w32 (dx (alS key nonce n) 16)) (w32 (dx (alS key nonce n) 16)) (by kernel_rfl) inz43 (by decide) (fun _ _ => rfl) (fun j hj => by rw [if_pos (by omega), Nat.sub_zero]) ?_
    intro u6 M
    replace M : Mem ⟨w, []⟩ [⟨g1, .cells (av 4 (w8 (nb n))) 5⟩, ⟨g2, .cells (av 16 (w32 (dx (alS key nonce n) 16))) 43⟩, ⟨g3, .cells (av 16 (w32 (dx (alS key nonce n) 16))) 43⟩] u6 := M
    refine pl_nil ?_
    refine au_then ?_
    refine wp_seq ?_
    refine wp_seq ?_
    refine rg_lit ?_
    refine pl_val (want_no rfl) (some 11) rfl (.int .i64 0) (fun _ => by kernel_rfl) ?_
    refine pl_nil ?_
    refine au_then ?_
    refine wp_block ?_
    refine au_loop (fun j a w' => ∃ v2 : Nat → Value, a = ⟨#[.string key, .string nonce, .int .u32 n, undef, undef, undef, .string ⟨#[]⟩, .string (alS key nonce n), .pointer (some ⟨g2, 0, none⟩), .int .i64 (16 : Int), .pointer (some ⟨g3, 0, none⟩), .int .i64 (j : Int), undef, undef, .string key, .string (strK ++ key), .int .u32 n, .int .u8 (cv .u8 n), .int .u32 n, .int .u32 (sr n 8), .int .u8 (cv .u8 (sr n 8)), .int .u32 n, .int .u32 (sr n 16), .int .u8 (cv .u8 (sr n 16)), .int .u32 n, .int .u32 (sr n 24), .int .u8 (cv .u8 (sr n 24)), .slice (some ⟨g1, 0, none⟩) 4 4, .string (nB n), .string (strK ++ key ++ nB n), .string nonce, .string (alS key nonce n), .int .i64 (16 : Int), .bool false, v1 34, v1 35, v1 36, v1 37, v1 38, v1 39, v1 40, v1 41, v1 42, v1 43, v1 44, v1 45, .agg (av 16 (w32 (dx (alS key nonce n) 16))), v2 47, v2 48, v2 49, v2 50, v2 51, v2 52, v2 53, v2 54, v2 55, v2 56, v2 57, v2 58, v2 59, v2 60, v2 61, v2 62, v2 63, v2 64, v2 65, v2 66, undef, undef, undef, undef, undef, undef, undef, undef, undef, undef, undef, undef, undef, undef, undef, undef, undef, undef, undef, undef, undef, undef, undef, undef, undef], []⟩ ∧ Mem ⟨w, []⟩ [⟨g1, .cells (av 4 (w8 (nb n))) 5⟩, ⟨g2, .cells (av 16 (w32 (dx (alS key nonce n) 16))) 43⟩, ⟨g3, .cells (av 16 (w32 (rd (dx (alS key nonce n) 16) j))) 43⟩] w') 10 ⟨fun k_ => ([undef, undef, undef, undef, undef, undef, undef, undef, undef, undef, undef, undef, undef, undef, undef, undef, undef, undef, undef, undef] : List Value).getD (k_ - 47) undef, by kernel_rfl, M⟩ ?_ ?_
    · intro j a u0 hj hI
      obtain ⟨v2, rfl, M⟩ := hI
      refine wp_seq ?_
      refine wp_seq ?_
      refine rg_lit ?_
      refine pl_val (want_no rfl) (some 47) rfl (.int .i64 (j : Int)) (fun _ => by kernel_rfl) ?_
      refine pl_val (want_no rfl) (some 48) rfl (.bool true) (fun w => Eq.trans (b := .ok (.value (.bool (decide ((j : Int) < 10)))) w) (by kernel_rfl) (by rw [decide_eq_true (by omega)])) ?_
      refine pl_nil ?_
      refine au_then ?_
      refine wp_cond_true (by kernel_rfl) ?_
      refine wp_skip ?_
      refine au_then ?_
      refine wp_seq ?_
      refine wp_block ?_
      refine wp_seq ?_
      refine rg_lit ?_
      refine pl_load M (want_no rfl) (some 51) rfl 43 _ rfl 2 g3 0 (by kernel_rfl) 16 43 (w32 (rd (dx (alS key nonce n) 16) j)) rfl 16 (w32 (rd (dx (alS key nonce n) 16) j)) (fun j _ => by rw [Nat.zero_add]) (by decide) _ Tryd.underlying43 rfl inz43 ?_
      refine pl_call M (want_no rfl) (some 52) rfl 49 #[.agg (av 16 (w32 (rd (dx (alS key nonce n) 16) j))), .int .i64 0, .int .i64 4, .int .i64 8, .int .i64 12] (.agg (av 16 (w32 (rn1 (rd (dx (alS key nonce n) 16) j))))) (fun _ => by kernel_rfl) (fun w M => d_quarter (rd (dx (alS key nonce n) 16) j) 0 4 8 12 (by decide) (by decide) (by decide) (by decide) (by decide) (by decide) (by decide) (by decide) (by decide) (by decide) w M.laid) ?_
      intro u7 M
      refine pl_put M (want_no rfl) rfl 43 _ _ rfl 2 g3 0 (by kernel_rfl) 16 43 (w32 (rd (dx (alS key nonce n) 16) j)) rfl 16 (w32 (rn1 (rd (dx (alS key nonce n) 16) j))) (w32 (rn1 (rd (dx (alS key nonce n) 16) j))) (by kernel_rfl) inz43 (by decide) (fun _ _ => rfl) (fun j hj => by rw [if_pos (by omega), Nat.sub_zero]) ?_
      intro u8 M
      replace M : Mem ⟨w, []⟩ [⟨g1, .cells (av 4 (w8 (nb n))) 5⟩, ⟨g2, .cells (av 16 (w32 (dx (alS key nonce n) 16))) 43⟩, ⟨g3, .cells (av 16 (w32 (rn1 (rd (dx (alS key nonce n) 16) j)))) 43⟩] u8 := M
      refine pl_nil ?_
      refine au_then ?_
      refine wp_seq ?_
      refine rg_lit ?_
      refine pl_load M (want_no rfl) (some 53) rfl 43 _ rfl 2 g3 0 (by kernel_rfl) 16 43 (w32 (rn1 (rd (dx (alS key nonce n) 16) j))) rfl 16 (w32 (rn1 (rd (dx (alS key nonce n) 16) j))) (fun j _ => by rw [Nat.zero_add]) (by decide) _ Tryd.underlying43 rfl inz43 ?_
      refine pl_call M (want_no rfl) (some 54) rfl 49 #[.agg (av 16 (w32 (rn1 (rd (dx (alS key nonce n) 16) j)))), .int .i64 1, .int .i64 5, .int .i64 9, .int .i64 13] (.agg (av 16 (w32 (rn2 (rd (dx (alS key nonce n) 16) j))))) (fun _ => by kernel_rfl) (fun w M => d_quarter (rn1 (rd (dx (alS key nonce n) 16) j)) 1 5 9 13 (by decide) (by decide) (by decide) (by decide) (by decide) (by decide) (by decide) (by decide) (by decide) (by decide) w M.laid) ?_
      intro u9 M
      refine pl_put M (want_no rfl) rfl 43 _ _ rfl 2 g3 0 (by kernel_rfl) 16 43 (w32 (rn1 (rd (dx (alS key nonce n) 16) j))) rfl 16 (w32 (rn2 (rd (dx (alS key nonce n) 16) j))) (w32 (rn2 (rd (dx (alS key nonce n) 16) j))) (by kernel_rfl) inz43 (by decide) (fun _ _ => rfl) (fun j hj => by rw [if_pos (by omega), Nat.sub_zero]) ?_
      intro u10 M
      replace M : Mem ⟨w, []⟩ [⟨g1, .cells (av 4 (w8 (nb n))) 5⟩, ⟨g2, .cells (av 16 (w32 (dx (alS key nonce n) 16))) 43⟩, ⟨g3, .cells (av 16 (w32 (rn2 (rd (dx (alS key nonce n) 16) j)))) 43⟩] u10 := M
      refine pl_nil ?_
      refine au_then ?_
      refine wp_seq ?_
      refine rg_lit ?_
      refine pl_load M (want_no rfl) (some 55) rfl 43 _ rfl 2 g3 0 (by kernel_rfl) 16 43 (w32 (rn2 (rd (dx (alS key nonce n) 16) j))) rfl 16 (w32 (rn2 (rd (dx (alS key nonce n) 16) j))) (fun j _ => by rw [Nat.zero_add]) (by decide) _ Tryd.underlying43 rfl inz43 ?_
      refine pl_call M (want_no rfl) (some 56) rfl 49 #[.agg (av 16 (w32 (rn2 (rd (dx (alS key nonce n) 16) j)))), .int .i64 2, .int .i64 6, .int .i64 10, .int .i64 14] (.agg (av 16 (w32 (rn3 (rd (dx (alS key nonce n) 16) j))))) (fun _ => by kernel_rfl) (fun w M => d_quarter (rn2 (rd (dx (alS key nonce n) 16) j)) 2 6 10 14 (by decide) (by decide) (by decide) (by decide) (by decide) (by decide) (by decide) (by decide) (by decide) (by decide) w M.laid) ?_
      intro u11 M
      refine pl_put M (want_no rfl) rfl 43 _ _ rfl 2 g3 0 (by kernel_rfl) 16 43 (w32 (rn2 (rd (dx (alS key nonce n) 16) j))) rfl 16 (w32 (rn3 (rd (dx (alS key nonce n) 16) j))) (w32 (rn3 (rd (dx (alS key nonce n) 16) j))) (by kernel_rfl) inz43 (by decide) (fun _ _ => rfl) (fun j hj => by rw [if_pos (by omega), Nat.sub_zero]) ?_
      intro u12 M
      replace M : Mem ⟨w, []⟩ [⟨g1, .cells (av 4 (w8 (nb n))) 5⟩, ⟨g2, .cells (av 16 (w32 (dx (alS key nonce n) 16))) 43⟩, ⟨g3, .cells (av 16 (w32 (rn3 (rd (dx (alS key nonce n) 16) j)))) 43⟩] u12 := M
      refine pl_nil ?_
      refine au_then ?_
      refine wp_seq ?_
      refine rg_lit ?_
      refine pl_load M (want_no rfl) (some 57) rfl 43 _ rfl 2 g3 0 (by kernel_rfl) 16 43 (w32 (rn3 (rd (dx (alS key nonce n) 16) j))) rfl 16 (w32 (rn3 (rd (dx (alS key nonce n) 16) j))) (fun j _ => by rw [Nat.zero_add]) (by decide) _ Tryd.underlying43 rfl inz43 ?_
      refine pl_call M (want_no rfl) (some 58) rfl 49 #[.agg (av 16 (w32 (rn3 (rd (dx (alS key nonce n) 16) j)))), .int .i64 3, .int .i64 7, .int .i64 11, .int .i64 15] (.agg (av 16 (w32 (rn4 (rd (dx (alS key nonce n) 16) j))))) (fun _ => by kernel_rfl) (fun w M => d_quarter (rn3 (rd (dx (alS key nonce n) 16) j)) 3 7 11 15 (by decide) (by decide) (by decide) (by decide) (by decide) (by decide) (by decide) (by decide) (by decide) (by decide) w M.laid) ?_
      intro u13 M
      refine pl_put M (want_no rfl) rfl 43 _ _ rfl 2 g3 0 (by kernel_rfl) 16 43 (w32 (rn3 (rd (dx (alS key nonce n) 16) j))) rfl 16 (w32 (rn4 (rd (dx (alS key nonce n) 16) j))) (w32 (rn4 (rd (dx (alS key nonce n) 16) j))) (by kernel_rfl) inz43 (by decide) (fun _ _ => rfl) (fun j hj => by rw [if_pos (by omega), Nat.sub_zero]) ?_
      intro u14 M
      replace M : Mem ⟨w, []⟩ [⟨g1, .cells (av 4 (w8 (nb n))) 5⟩, ⟨g2, .cells (av 16 (w32 (dx (alS key nonce n) 16))) 43⟩, ⟨g3, .cells (av 16 (w32 (rn4 (rd (dx (alS key nonce n) 16) j)))) 43⟩] u14 := M
      refine pl_nil ?_
      refine au_then ?_
      refine wp_seq ?_
      refine rg_lit ?_
      refine pl_load M (want_no rfl) (some 59) rfl 43 _ rfl 2 g3 0 (by kernel_rfl) 16 43 (w32 (rn4 (rd (dx (alS key nonce n) 16) j))) rfl 16 (w32 (rn4 (rd (dx (alS key nonce n) 16) j))) (fun j _ => by rw [Nat.zero_add]) (by decide) _ Tryd.underlying43 rfl inz43 ?_
      refine pl_call M (want_no rfl) (some 60) rfl 49 #[.agg (av 16 (w32 (rn4 (rd (dx (alS key nonce n) 16) j)))), .int .i64 0, .int .i64 5, .int .i64 10, .int .i64 15] (.agg (av 16 (w32 (rn5 (rd (dx (alS key nonce n) 16) j))))) (fun _ => by kernel_rfl) (fun w M => d_quarter (rn4 (rd (dx (alS key nonce n) 16) j)) 0 5 10 15 (by decide) (by decide) (by decide) (by decide) (by decide) (by decide) (by decide) (by decide) (by decide) (by decide) w M.laid) ?_
      intro u15 M
      refine pl_put M (want_no rfl) rfl 43 _ _ rfl 2 g3 0 (by kernel_rfl) 16 43 (w32 (rn4 (rd (dx (alS key nonce n) 16) j))) rfl 16 (w32 (rn5 (rd (dx (alS key nonce n) 16) j))) (w32 (rn5 (rd (dx (alS key nonce n) 16) j))) (by kernel_rfl) inz43 (by decide) (fun _ _ => rfl) (fun j hj => by rw [if_pos (by omega), Nat.sub_zero]) ?_
      intro u16 M
      replace M : Mem ⟨w, []⟩ [⟨g1, .cells (av 4 (w8 (nb n))) 5⟩, ⟨g2, .cells (av 16 (w32 (dx (alS key nonce n) 16))) 43⟩, ⟨g3, .cells (av 16 (w32 (rn5 (rd (dx (alS key nonce n) 16) j)))) 43⟩] u16 := M
      refine pl_nil ?_
      refine au_then ?_
      refine wp_seq ?_
      refine rg_lit ?_
      refine pl_load M (want_no rfl) (some 61) rfl 43 _ rfl 2 g3 0 (by kernel_rfl) 16 43 (w32 (rn5 (rd (dx (alS key nonce n) 16) j))) rfl 16 (w32 (rn5 (rd (dx (alS key nonce n) 16) j))) (fun j _ => by rw [Nat.zero_add]) (by decide) _ Tryd.underlying43 rfl inz43 ?_
      refine pl_call M (want_no rfl) (some 62) rfl 49 #[.agg (av 16 (w32 (rn5 (rd (dx (alS key nonce n) 16) j)))), .int .i64 1, .int .i64 6, .int .i64 11, .int .i64 12] (.agg (av 16 (w32 (rn6 (rd (dx (alS key nonce n) 16) j))))) (fun _ => by kernel_rfl) (fun w M => d_quarter (rn5 (rd (dx (alS key nonce n) 16) j)) 1 6 11 12 (by decide) (by decide) (by decide) (by decide) (by decide) (by decide) (by decide) (by decide) (by decide) (by decide) w M.laid) ?_
      intro u17 M
      refine pl_put M (want_no rfl) rfl 43 _ _ rfl 2 g3 0 (by kernel_rfl) 16 43 (w32 (rn5 (rd (dx (alS key nonce n) 16) j))) rfl 16 (w32 (rn6 (rd (dx (alS key nonce n) 16) j))) (w32 (rn6 (rd (dx (alS key nonce n) 16) j))) (by kernel_rfl) inz43 (by decide) (fun _ _ => rfl) (fun j hj => by rw [if_pos (by omega), Nat.sub_zero]) ?_
      intro u18 M
      replace M : Mem ⟨w, []⟩ [⟨g1, .cells (av 4 (w8 (nb n))) 5⟩, ⟨g2, .cells (av 16 (w32 (dx (alS key nonce n) 16))) 43⟩, ⟨g3, .cells (av 16 (w32 (rn6 (rd (dx (alS key nonce n) 16) j)))) 43⟩] u18 := M
      refine pl_nil ?_
      refine au_then ?_
      refine wp_seq ?_
      refine rg_lit ?_
      refine pl_load M (want_no rfl) (some 63) rfl 43 _ rfl 2 g3 0 (by kernel_rfl) 16 43 (w32 (rn6 (rd (dx (alS key nonce n) 16) j))) rfl 16 (w32 (rn6 (rd (dx (alS key nonce n) 16) j))) (fun j _ => by rw [Nat.zero_add]) (by decide) _ Tryd.underlying43 rfl inz43 ?_
      refine pl_call M (want_no rfl) (some 64) rfl 49 #[.agg (av 16 (w32 (rn6 (rd (dx (alS key nonce n) 16) j)))), .int .i64 2, .int .i64 7, .int .i64 8, .int .i64 13] (.agg (av 16 (w32 (rn7 (rd (dx (alS key nonce n) 16) j))))) (fun _ => by kernel_rfl) (fun w M => d_quarter (rn6 (rd (dx (alS key nonce n) 16) j)) 2 7 8 13 (by decide) (by decide) (by decide) (by decide) (by decide) (by decide) (by decide) (by decide) (by decide) (by decide) w M.laid) ?_
      intro u19 M
      refine pl_put M (want_no rfl) rfl 43 _ _ rfl 2 g3 0 (by kernel_rfl) 16 43 (w32 (rn6 (rd (dx (alS key nonce n) 16) j))) rfl 16 (w32 (rn7 (rd (dx (alS key nonce n) 16) j))) (w32 (rn7 (rd (dx (alS key nonce n) 16) j))) (by kernel_rfl) inz43 (by decide) (fun _ _ => rfl) (fun j hj => by rw [if_pos (by omega), Nat.sub_zero]) ?_
      intro u20 M
      replace M : Mem ⟨w, []⟩ [⟨g1, .cells (av 4 (w8 (nb n))) 5⟩, ⟨g2, .cells (av 16 (w32 (dx (alS key nonce n) 16))) 43⟩, ⟨g3, .cells (av 16 (w32 (rn7 (rd (dx (alS key nonce n) 16) j)))) 43⟩] u20 := M
      refine pl_nil ?_
      refine au_then ?_
      refine rg_lit ?_
      refine pl_load M (want_no rfl) (some 65) rfl 43 _ rfl 2 g3 0 (by kernel_rfl) 16 43 (w32 (rn7 (rd (dx (alS key nonce n) 16) j))) rfl 16 (w32 (rn7 (rd (dx (alS key nonce n) 16) j))) (fun j _ => by rw [Nat.zero_add]) (by decide) _ Tryd.underlying43 rfl inz43 ?_
      refine pl_call M (want_no rfl) (some 66) rfl 49 #[.agg (av 16 (w32 (rn7 (rd (dx (alS key nonce n) 16) j)))), .int .i64 3, .int .i64 4, .int .i64 9, .int .i64 14] (.agg (av 16 (w32 (rn8 (rd (dx (alS key nonce n) 16) j))))) (fun _ => by kernel_rfl) (fun w M => d_quarter (rn7 (rd (dx (alS key nonce n) 16) j)) 3 4 9 14 (by decide) (by decide) (by decide) (by decide) (by decide) (by decide) (by decide) (by decide) (by decide) (by decide) w M.laid) ?_
      intro u21 M
      refine pl_put M (want_no rfl) rfl 43 _ _ rfl 2 g3 0 (by kernel_rfl) 16 43 (w32 (rn7 (rd (dx (alS key nonce n) 16) j))) rfl 16 (w32 (rn8 (rd (dx (alS key nonce n) 16) j))) (w32 (rn8 (rd (dx (alS key nonce n) 16) j))) (by kernel_rfl) inz43 (by decide) (fun _ _ => rfl) (fun j hj => by rw [if_pos (by omega), Nat.sub_zero]) ?_
      intro u22 M
      replace M : Mem ⟨w, []⟩ [⟨g1, .cells (av 4 (w8 (nb n))) 5⟩, ⟨g2, .cells (av 16 (w32 (dx (alS key nonce n) 16))) 43⟩, ⟨g3, .cells (av 16 (w32 (rn8 (rd (dx (alS key nonce n) 16) j)))) 43⟩] u22 := M
      refine pl_nil ?_
      refine au_block ?_
      refine au_then ?_
      refine rg_lit ?_
      refine pl_val (want_no rfl) (some 49) rfl (.int .i64 (j : Int)) (fun _ => by kernel_rfl) ?_
      refine pl_val (want_no rfl) (some 50) rfl (.int .i64 ((j + 1 : Nat) : Int)) (fun w => Eq.trans (b := .ok (.value (.int .i64 (IntKind.wrap .i64 ((j : Int) + 1)))) w) (by kernel_rfl) (by rw [wrap64 (by omega) (by omega)]; congr 3)) ?_
      refine pl_val (want_no rfl) (some 11) rfl (.int .i64 ((j + 1 : Nat) : Int)) (fun _ => by kernel_rfl) ?_
      refine pl_nil ?_
      refine au_then ?_
      exact ⟨fun k_ => ([.int .i64 (j : Int), .bool true, .int .i64 (j : Int), .int .i64 ((j + 1 : Nat) : Int), .agg (av 16 (w32 (rd (dx (alS key nonce n) 16) j))), .agg (av 16 (w32 (rn1 (rd (dx (alS key nonce n) 16) j)))), .agg (av 16 (w32 (rn1 (rd (dx (alS key nonce n) 16) j)))), .agg (av 16 (w32 (rn2 (rd (dx (alS key nonce n) 16) j)))), .agg (av 16 (w32 (rn2 (rd (dx (alS key nonce n) 16) j)))), .agg (av 16 (w32 (rn3 (rd (dx (alS key nonce n) 16) j)))), .agg (av 16 (w32 (rn3 (rd (dx (alS key nonce n) 16) j)))), .agg (av 16 (w32 (rn4 (rd (dx (alS key nonce n) 16) j)))), .agg (av 16 (w32 (rn4 (rd (dx (alS key nonce n) 16) j)))), .agg (av 16 (w32 (rn5 (rd (dx (alS key nonce n) 16) j)))), .agg (av 16 (w32 (rn5 (rd (dx (alS key nonce n) 16) j)))), .agg (av 16 (w32 (rn6 (rd (dx (alS key nonce n) 16) j)))), .agg (av 16 (w32 (rn6 (rd (dx (alS key nonce n) 16) j)))), .agg (av 16 (w32 (rn7 (rd (dx (alS key nonce n) 16) j)))), .agg (av 16 (w32 (rn7 (rd (dx (alS key nonce n) 16) j)))), .agg (av 16 (w32 (rn8 (rd (dx (alS key nonce n) 16) j))))] : List Value).getD (k_ - 47) undef, by kernel_rfl, M⟩
    · intro a u0 hI
      obtain ⟨v2, rfl, M⟩ := hI
      refine wp_seq ?_
      refine wp_seq ?_
      refine rg_lit ?_
      refine pl_val (want_no rfl) (some 47) rfl (.int .i64 (10 : Int)) (fun _ => by kernel_rfl) ?_
      refine pl_val (want_no rfl) (some 48) rfl (.bool false) (fun w => Eq.trans (b := .ok (.value (.bool (decide (10 < 10)))) w) (by kernel_rfl) (by rw [decide_eq_false (by omega)])) ?_
      refine pl_nil ?_
      refine au_then ?_
      refine wp_cond_false (by kernel_rfl) ?_
      refine wp_exit ?_
      refine au_then_exit ?_
      refine au_then_exit ?_
      refine au_block_exit ?_
      refine au_then ?_
      refine wp_seq ?_
      refine rg_lit ?_
      refine pl_mk M (want_no rfl) (some 67) rfl (fun g4 => .slice (some ⟨g4, 0, none⟩) 64 64) (.cells (av 64 (w8 (dk (dx (alS key nonce n) 16) 0))) 5) (fun _ => by kernel_rfl) ?_
      intro g4 u23 M
      replace M : Mem ⟨w, []⟩ [⟨g1, .cells (av 4 (w8 (nb n))) 5⟩, ⟨g2, .cells (av 16 (w32 (dx (alS key nonce n) 16))) 43⟩, ⟨g3, .cells (av 16 (w32 (rd (dx (alS key nonce n) 16) 10))) 43⟩, ⟨g4, .cells (av 64 (w8 (dk (dx (alS key nonce n) 16) 0))) 5⟩] u23 := M
      refine pl_val (want_no rfl) (some 12) rfl (.slice (some ⟨g4, 0, none⟩) 64 64) (fun _ => by kernel_rfl) ?_
      refine pl_nil ?_
      refine au_then ?_
      refine wp_seq ?_
      refine wp_seq ?_
      refine rg_lit ?_
      refine pl_val (want_no rfl) (some 13) rfl (.int .i64 0) (fun _ => by kernel_rfl) ?_
      refine pl_nil ?_
      refine au_then ?_
      refine wp_block ?_
      refine au_loop (fun j a w' => ∃ v3 : Nat → Value, a = ⟨#[.string key, .string nonce, .int .u32 n, undef, undef, undef, .string ⟨#[]⟩, .string (alS key nonce n), .pointer (some ⟨g2, 0, none⟩), .int .i64 (16 : Int), .pointer (some ⟨g3, 0, none⟩), .int .i64 (10 : Int), .slice (some ⟨g4, 0, none⟩) 64 64, .int .i64 (j : Int), .string key, .string (strK ++ key), .int .u32 n, .int .u8 (cv .u8 n), .int .u32 n, .int .u32 (sr n 8), .int .u8 (cv .u8 (sr n 8)), .int .u32 n, .int .u32 (sr n 16), .int .u8 (cv .u8 (sr n 16)), .int .u32 n, .int .u32 (sr n 24), .int .u8 (cv .u8 (sr n 24)), .slice (some ⟨g1, 0, none⟩) 4 4, .string (nB n), .string (strK ++ key ++ nB n), .string nonce, .string (alS key nonce n), .int .i64 (16 : Int), .bool false, v1 34, v1 35, v1 36, v1 37, v1 38, v1 39, v1 40, v1 41, v1 42, v1 43, v1 44, v1 45, .agg (av 16 (w32 (dx (alS key nonce n) 16))), .int .i64 (10 : Int), .bool false, v2 49, v2 50, v2 51, v2 52, v2 53, v2 54, v2 55, v2 56, v2 57, v2 58, v2 59, v2 60, v2 61, v2 62, v2 63, v2 64, v2 65, v2 66, .slice (some ⟨g4, 0, none⟩) 64 64, v3 68, v3 69, v3 70, v3 71, v3 72, v3 73, v3 74, v3 75, v3 76, v3 77, v3 78, v3 79, v3 80, v3 81, v3 82, v3 83, v3 84, v3 85, v3 86, v3 87, v3 88, v3 89, undef, undef], []⟩ ∧ Mem ⟨w, []⟩ [⟨g1, .cells (av 4 (w8 (nb n))) 5⟩, ⟨g2, .cells (av 16 (w32 (dx (alS key nonce n) 16))) 43⟩, ⟨g3, .cells (av 16 (w32 (rd (dx (alS key nonce n) 16) 10))) 43⟩, ⟨g4, .cells (av 64 (w8 (dk (dx (alS key nonce n) 16) j))) 5⟩] w') 64 ⟨fun k_ => ([undef, undef, undef, undef, undef, undef, undef, undef, undef, undef, undef, undef, undef, undef, undef, undef, undef, undef, undef, undef, undef, undef] : List Value).getD (k_ - 68) undef, by kernel_rfl, M⟩ ?_ ?_
      · intro j a u0 hj hI
        obtain ⟨v3, rfl, M⟩ := hI
        refine wp_seq ?_
        refine wp_seq ?_
        refine rg_lit ?_
        refine pl_val (want_no rfl) (some 68) rfl (.int .i64 (j : Int)) (fun _ => by kernel_rfl) ?_
        refine pl_val (want_no rfl) (some 69) rfl (.bool true) (fun w => Eq.trans (b := .ok (.value (.bool (decide ((j : Int) < 64)))) w) (by kernel_rfl) (by rw [decide_eq_true (by omega)])) ?_
        refine pl_nil ?_
        refine au_then ?_
        refine wp_cond_true (by kernel_rfl) ?_
        refine wp_skip ?_
        refine au_then ?_
        refine wp_seq ?_
        refine wp_block ?_
        refine rg_tail M 18 (by kernel_rfl) (by kernel_rfl) ?_
        simp only [List.take_succ_cons, List.take_zero]
        refine k_val (want_no rfl) (some 72) rfl (.slice (some ⟨g4, 0, none⟩) 64 64) (fun _ => by kernel_rfl) ?_
        refine k_val (want_no rfl) (some 73) rfl (.int .i64 (j : Int)) (fun _ => by kernel_rfl) ?_
        refine k_val (want_no rfl) (some 74) rfl (.int .i64 (j : Int)) (fun _ => by kernel_rfl) ?_
        refine k_val (want_no rfl) (some 75) rfl (.int .i64 ((j / 4 : Nat) : Int)) (fun w => Eq.trans (b := .ok (.value (.int .i64 (IntKind.wrap .i64 ((j : Int).tdiv 4)))) w) (by kernel_rfl) (by rw [quo4 j (by omega)])) ?_
        refine k_val (want_no rfl) (some 76) rfl (.pointer (some ⟨g2, ((j / 4 : Nat)), none⟩)) (run_ix1 43 16 37 Tryd.underlying43 inz37 _ _ rfl g2 (by kernel_rfl) .i64 ((j / 4 : Nat)) (by kernel_rfl) (by omega)) ?_
        refine k_cell M (want_no rfl) (some 77) rfl 37 _ rfl g2 ((j / 4 : Nat)) (by kernel_rfl) (.int .u32 ((dx (alS key nonce n) 16) ((j / 4 : Nat)))) (fun _ => by kernel_rfl) (fun w M => M.cell 1 rfl (by omega) rfl) ?_
        refine k_val (want_no rfl) (some 78) rfl (.int .i64 (j : Int)) (fun _ => by kernel_rfl) ?_
        refine k_val (want_no rfl) (some 79) rfl (.int .i64 ((j / 4 : Nat) : Int)) (fun w => Eq.trans (b := .ok (.value (.int .i64 (IntKind.wrap .i64 ((j : Int).tdiv 4)))) w) (by kernel_rfl) (by rw [quo4 j (by omega)])) ?_
        refine k_val (want_no rfl) (some 80) rfl (.pointer (some ⟨g3, ((j / 4 : Nat)), none⟩)) (run_ix1 43 16 37 Tryd.underlying43 inz37 _ _ rfl g3 (by kernel_rfl) .i64 ((j / 4 : Nat)) (by kernel_rfl) (by omega)) ?_
        refine k_cell M (want_no rfl) (some 81) rfl 37 _ rfl g3 ((j / 4 : Nat)) (by kernel_rfl) (.int .u32 ((rd (dx (alS key nonce n) 16) 10) ((j / 4 : Nat)))) (fun _ => by kernel_rfl) (fun w M => M.cell 2 rfl (by omega) rfl) ?_
        refine k_val (want_no rfl) (some 82) rfl (.int .u32 (va ((dx (alS key nonce n) 16) ((j / 4 : Nat))) ((rd (dx (alS key nonce n) 16) 10) ((j / 4 : Nat))))) (fun _ => by kernel_rfl) ?_
        refine k_val (want_no rfl) (some 83) rfl (.int .i64 (j : Int)) (fun _ => by kernel_rfl) ?_
        refine k_val (want_no rfl) (some 84) rfl (.int .i64 ((j % 4 : Nat) : Int)) (fun w => Eq.trans (b := .ok (.value (.int .i64 (Int.tmod (j : Int) 4))) w) (by kernel_rfl) (by rw [rem4 j])) ?_
        refine k_val (want_no rfl) (some 85) rfl (.int .i64 ((8 * (j % 4) : Nat) : Int)) (fun w => Eq.trans (b := .ok (.value (.int .i64 (IntKind.wrap .i64 (8 * ((j % 4 : Nat) : Int))))) w) (by kernel_rfl) (by rw [wrap64 (by omega) (by omega)]; congr 3 <;> omega)) ?_
        refine k_val (want_no rfl) (some 86) rfl (.int .u64 ((8 * (j % 4) : Nat) : Int)) (fun w => Eq.trans (b := .ok (.value (.int .u64 (cv .u64 ((8 * (j % 4) : Nat) : Int)))) w) (by kernel_rfl) (by rw [cvu64 _ (by omega)])) ?_
        refine k_val (want_no rfl) (some 87) rfl (.int .u32 (sr (va ((dx (alS key nonce n) 16) (j / 4)) (rd (dx (alS key nonce n) 16) 10 (j / 4))) (8 * (j % 4)))) (run_shrV 37 53 _ _ rfl _ .u64 (8 * (j % 4)) (by kernel_rfl) (by kernel_rfl) (by omega)) ?_
        refine k_val (want_no rfl) (some 88) rfl (.int .u8 (cv .u8 (sr (va ((dx (alS key nonce n) 16) (j / 4)) (rd (dx (alS key nonce n) 16) 10 (j / 4))) (8 * (j % 4))))) (fun _ => by kernel_rfl) ?_
        refine k_val (want_no rfl) (some 89) rfl (.pointer (some ⟨g4, j, none⟩)) (run_ix0 32 5 Tryd.underlying32 inz5 _ _ rfl g4 64 64 (by kernel_rfl) .i64 j (by kernel_rfl) hj) ?_
        refine kl_nil ?_
        intro u24 M
        replace M : Mem ⟨w, []⟩ [⟨g1, .cells (av 4 (w8 (nb n))) 5⟩, ⟨g2, .cells (av 16 (w32 (dx (alS key nonce n) 16))) 43⟩, ⟨g3, .cells (av 16 (w32 (rd (dx (alS key nonce n) 16) 10))) 43⟩, ⟨g4, .cells (av 64 (w8 (dk (dx (alS key nonce n) 16) j))) 5⟩] u24 := M
        refine pl_put1 M (want_no rfl) rfl 5 _ _ rfl 3 g4 j (by kernel_rfl) 64 5 (w8 (dk (dx (alS key nonce n) 16) j)) rfl (.int .u8 (cv .u8 (sr (va ((dx (alS key nonce n) 16) (j / 4)) (rd (dx (alS key nonce n) 16) 10 (j / 4))) (8 * (j % 4))))) (w8 (upd (dk (dx (alS key nonce n) 16) j) j (cv .u8 (sr (va ((dx (alS key nonce n) 16) (j / 4)) (rd (dx (alS key nonce n) 16) 10 (j / 4))) (8 * (j % 4)))))) (by kernel_rfl) inz5 (by omega) rfl rfl (fun j _ => put_w8 _ _ _ j) ?_
        intro u25 M
        replace M : Mem ⟨w, []⟩ [⟨g1, .cells (av 4 (w8 (nb n))) 5⟩, ⟨g2, .cells (av 16 (w32 (dx (alS key nonce n) 16))) 43⟩, ⟨g3, .cells (av 16 (w32 (rd (dx (alS key nonce n) 16) 10))) 43⟩, ⟨g4, .cells (av 64 (w8 (upd (dk (dx (alS key nonce n) 16) j) j (cv .u8 (sr (va ((dx (alS key nonce n) 16) (j / 4)) (rd (dx (alS key nonce n) 16) 10 (j / 4))) (8 * (j % 4))))))) 5⟩] u25 := M
        refine pl_nil ?_
        refine au_block ?_
        refine au_then ?_
        refine rg_lit ?_
        refine pl_val (want_no rfl) (some 70) rfl (.int .i64 (j : Int)) (fun _ => by kernel_rfl) ?_
        refine pl_val (want_no rfl) (some 71) rfl (.int .i64 ((j + 1 : Nat) : Int)) (fun w => Eq.trans (b := .ok (.value (.int .i64 (IntKind.wrap .i64 ((j : Int) + 1)))) w) (by kernel_rfl) (by rw [wrap64 (by omega) (by omega)]; congr 3)) ?_
        refine pl_val (want_no rfl) (some 13) rfl (.int .i64 ((j + 1 : Nat) : Int)) (fun _ => by kernel_rfl) ?_
        refine pl_nil ?_
        refine au_then ?_
        exact ⟨fun k_ => ([.int .i64 (j : Int), .bool true, .int .i64 (j : Int), .int .i64 ((j + 1 : Nat) : Int), .slice (some ⟨g4, 0, none⟩) 64 64, .int .i64 (j : Int), .int .i64 (j : Int), .int .i64 ((j / 4 : Nat) : Int), .pointer (some ⟨g2, ((j / 4 : Nat)), none⟩), .int .u32 ((dx (alS key nonce n) 16) ((j / 4 : Nat))), .int .i64 (j : Int), .int .i64 ((j / 4 : Nat) : Int), .pointer (some ⟨g3, ((j / 4 : Nat)), none⟩), .int .u32 ((rd (dx (alS key nonce n) 16) 10) ((j / 4 : Nat))), .int .u32 (va ((dx (alS key nonce n) 16) ((j / 4 : Nat))) ((rd (dx (alS key nonce n) 16) 10) ((j / 4 : Nat)))), .int .i64 (j : Int), .int .i64 ((j % 4 : Nat) : Int), .int .i64 ((8 * (j % 4) : Nat) : Int), .int .u64 ((8 * (j % 4) : Nat) : Int), .int .u32 (sr (va ((dx (alS key nonce n) 16) (j / 4)) (rd (dx (alS key nonce n) 16) 10 (j / 4))) (8 * (j % 4))), .int .u8 (cv .u8 (sr (va ((dx (alS key nonce n) 16) (j / 4)) (rd (dx (alS key nonce n) 16) 10 (j / 4))) (8 * (j % 4)))), .pointer (some ⟨g4, j, none⟩)] : List Value).getD (k_ - 68) undef, by kernel_rfl, M⟩
      · intro a u0 hI
        obtain ⟨v3, rfl, M⟩ := hI
        refine wp_seq ?_
        refine wp_seq ?_
        refine rg_lit ?_
        refine pl_val (want_no rfl) (some 68) rfl (.int .i64 (64 : Int)) (fun _ => by kernel_rfl) ?_
        refine pl_val (want_no rfl) (some 69) rfl (.bool false) (fun w => Eq.trans (b := .ok (.value (.bool (decide (64 < 64)))) w) (by kernel_rfl) (by rw [decide_eq_false (by omega)])) ?_
        refine pl_nil ?_
        refine au_then ?_
        refine wp_cond_false (by kernel_rfl) ?_
        refine wp_exit ?_
        refine au_then_exit ?_
        refine au_then_exit ?_
        refine au_block_exit ?_
        refine au_then ?_
        refine wp_seq ?_
        refine rg_lit ?_
        refine pl_val (want_no rfl) (some 90) rfl (.slice (some ⟨g4, 0, none⟩) 64 64) (fun _ => by kernel_rfl) ?_
        refine pl_back M (want_no rfl) (some 91) rfl _ rfl 3 g4 64 64 (by kernel_rfl) _ rfl ((List.range 64).map (dk (dx (alS key nonce n) 16) 64)) 64 (sb_av 64 _ _) (by simp) (by rw [dk_map]; exact dbl_nn _) ?_
        rw [dk_map]
        refine pl_val (want_no rfl) (some 6) rfl (.string (dbk key nonce n)) (fun _ => by kernel_rfl) ?_
        refine pl_nil ?_
        refine au_then ?_
        refine wp_ret ?_
        exact bodyPost_ret (v := .string (dbk key nonce n)) (results_tmp1 Tryd.results29 _ _ _ (by kernel_rfl)) (by kernel_rfl) ⟨rfl, below_grown M.old⟩


end Go.Proofs.YtkndaajbedlajaaDoor
