/- Part 5 of the walks and facts behind ipBack_holds. -/
import Derived.Test.YtndonmdgplojnaaGreatDoorBa4
/- The numbers of an address, and its text: the walks of the program. -/
namespace Go.Proofs.YtndonmdgplojnaaGreatDoor
open Go.RowKit

def InfoIs (P : Program) (e : TypeId) (zv : Value) : Prop := ∃ i, P.info? e = some i ∧ i.zero = some zv ∧ i.size = 1 ∧ i.bytes ≤ 16
theorem infoIs {P : Program} {e : TypeId} {zv : Value} {b : Nat} (h1 : (P.info? e).map (·.zero) = some (some zv)) (h2 : (P.info? e).map (·.size) = some 1) (h3 : (P.info? e).map (·.bytes) = some b) (hb : b ≤ 16) : InfoIs P e zv := by
  cases h : P.info? e with
  | none => rw [h] at h2; cases h2
  | some i =>
    rw [h] at h1 h2 h3
    simp only [Option.map_some, Option.some.injEq] at h1 h2 h3
    exact ⟨i, h, h1, h2, by omega⟩
theorem info9 : InfoIs Tryz.prog 9 (.string ⟨#[]⟩) := infoIs (b := 16) (by kernel_rfl) (by kernel_rfl) (by kernel_rfl) (by decide)
section
variable {P : Program} {ops : Array Oper} {rest : List Oper} {o : Oper} {a : Act} {w : World} {c : Ctx} {L : List Blk} {Q : Exit → Act → World → Prop}
theorem pl_appI (M : Mem c L w) (hw : Region.wanted o (yielded ops a.tmps) = true) (d : Option Tmp) (hd : o.dst = d) (t ty e : TypeId) (zv : Value) (ht : P.underlying t = some (.slice e)) (hin : InfoIs P e zv) (hzc : zv.cells.size = 1) (i g n cap : Nat) (Z : Obj) (l : List Value) (hi : L[i]? = some ⟨g, Z⟩) (hs : SB Z cap l) (hn : l.length = n) (hle : n < 1000000) (j gx Tx : Nat) (v : Value) (hj : L[j]? = some ⟨gx, .cells (av 1 (fun _ => v)) Tx⟩) (h1 : v.oneCell' = true)
    (hrun : ∀ w, (execOp a.eval o).run P w = (do pure (Next.value (← Builtin.append_ #[t, t] ty #[.slice (some ⟨g, 0, none⟩) n cap, .slice (some ⟨gx, 0, none⟩) 1 1]))).run P w)
    (h : ∀ g' cap' Z' w', SB Z' cap' (l ++ [v]) → Mem c (L.eraseIdx i ++ [⟨g', Z'⟩]) w' → PL P ops Q rest (a.put d (.slice (some ⟨g', 0, none⟩) (n + 1) cap')) w') : PL P ops Q (o :: rest) a w := by
  obtain ⟨info, i1, i2, i3, i4⟩ := hin
  exact pl_app M hw d hd t ty e info zv ht i1 i2 i3 i4 hzc i g n cap Z l hi hs hn hle j gx Tx v hj h1 hrun h
theorem pl_app0I (M : Mem c L w) (hw : Region.wanted o (yielded ops a.tmps) = true) (d : Option Tmp) (hd : o.dst = d) (t ty e : TypeId) (zv : Value) (ht : P.underlying t = some (.slice e)) (hin : InfoIs P e zv) (hzc : zv.cells.size = 1) (j gx Tx : Nat) (v : Value) (hj : L[j]? = some ⟨gx, .cells (av 1 (fun _ => v)) Tx⟩)
    (hrun : ∀ w, (execOp a.eval o).run P w = (do pure (Next.value (← Builtin.append_ #[t, t] ty #[.slice none 0 0, .slice (some ⟨gx, 0, none⟩) 1 1]))).run P w)
    (h : ∀ g' cap' Z' w', SB Z' cap' [v] → Mem c (L ++ [⟨g', Z'⟩]) w' → PL P ops Q rest (a.put d (.slice (some ⟨g', 0, none⟩) 1 cap')) w') : PL P ops Q (o :: rest) a w := by
  obtain ⟨info, i1, i2, i3, i4⟩ := hin
  exact pl_app0 M hw d hd t ty e info zv ht i1 i2 i3 i4 hzc j gx Tx v hj hrun h
end

theorem info32 : InfoIs Tryz.prog 32 (.int .u16 0) := infoIs (b := 2) (by kernel_rfl) (by kernel_rfl) (by kernel_rfl) (by decide)
section
variable {P : Program} {ops : Array Oper} {rest : List Oper} {o : Oper} {a : Act} {w : World} {c : Ctx} {L : List Blk} {Q : Exit → Act → World → Prop}
theorem pl_makeI (M : Mem c L w) (hw : Region.wanted o (yielded ops a.tmps) = true) (d : Option Tmp) (hd : o.dst = d) (t e : TypeId) (zv : Value) (ht : P.underlying t = some (.slice e)) (hin : InfoIs P e zv) (x y : Operand) (ho : o.op = .makeSlice t x y) (kx ky : IntKind) (hx : a.eval x = .int kx 0) (cap : Nat) (hy : a.eval y = .int ky (cap : Int)) (hc : cap < 1000000)
    (h : ∀ g Z w', SB Z cap [] → Mem c (L ++ [⟨g, Z⟩]) w' → PL P ops Q rest (a.put d (.slice (some ⟨g, 0, none⟩) 0 cap)) w') : PL P ops Q (o :: rest) a w := by
  obtain ⟨info, i1, i2, i3, i4⟩ := hin
  exact pl_make M hw d hd t e info zv ht i1 i2 i3 i4 x y ho kx ky hx cap hy hc h
end
/-- The first ones; the others are 0. -/
def cutf (f : Nat → Int) (j : Nat) : Nat → Int := fun i => if i < j then f i else 0
theorem cutf_upd (f : Nat → Int) (j : Nat) : upd (cutf f j) j (f j) = cutf f (j + 1) := by
  funext i
  unfold upd cutf
  by_cases h : i = j
  · subst h
    rw [if_pos rfl, if_pos (by omega)]
  · rw [if_neg h]
    by_cases h2 : i < j
    · rw [if_pos h2, if_pos (by omega)]
    · rw [if_neg h2, if_neg (by omega)]
theorem cutf_0 (f : Nat → Int) : cutf f 0 = fun _ => 0 := by
  funext i
  exact if_neg (by omega)
def gp (h l : Int) (j : Nat) : Int := cv .u16 (sr (if 4 ≤ j then l else h) (48 - 16 * ((j % 4 : Nat) : Int)).toNat)
def ggs (h l : Int) : Nat → Int := cutf (gp h l) 8
theorem cutf_nn {f : Nat → Int} {m : Int} (hm : 0 < m) (h : ∀ i, 0 ≤ f i ∧ f i < m) (j i : Nat) : 0 ≤ cutf f j i ∧ cutf f j i < m := by
  unfold cutf
  split
  · exact h i
  · omega
theorem gp_nn (h l : Int) (j : Nat) : 0 ≤ gp h l j ∧ gp h l j < 65536 := by
  unfold gp
  rw [cv_u16]
  omega
theorem ggs_nn (h l : Int) (j : Nat) : 0 ≤ ggs h l j ∧ ggs h l j < 65536 := cutf_nn (by decide) (gp_nn h l) 8 j
set_option maxRecDepth 100000 in
set_option maxHeartbeats 4000000 in
set_option linter.unusedSimpArgs false in
theorem c_groupsOf (v : Bool) (h l : Int) (w : World) (hL : Laid w)  :
    Calls Tryz.prog 73 #[.agg (av 3 (ls [.bool (v), .int .u64 h, .int .u64 l]))] w fun r w' => r = .returned (.agg (av 8 (w16 (ggs h l)))) ∧ Below w.heap.size w w' := by
  go_enter Tryz.func73, Tryz.ntmps73
  have M := Mem.start hL
  refine wp_seq ?_
  refine rg_lit ?_
  refine pl_new M (want_no rfl) (some 1) rfl (.cells (av 3 (ls [.bool (v), .int .u64 h, .int .u64 l])) 24) (fun _ => by kernel_rfl) ?_
  intro g1 u1 M
  replace M : Mem ⟨w, []⟩ [⟨g1, .cells (av 3 (ls [.bool (v), .int .u64 h, .int .u64 l])) 24⟩] u1 := M
  refine pl_new M (want_no rfl) (some 2) rfl (.cells (av 8 (w16 (fun _ => 0))) 94) (fun _ => by kernel_rfl) ?_
  intro g2 u2 M
  replace M : Mem ⟨w, []⟩ [⟨g1, .cells (av 3 (ls [.bool (v), .int .u64 h, .int .u64 l])) 24⟩, ⟨g2, .cells (av 8 (w16 (fun _ => 0))) 94⟩] u2 := M
  refine pl_nil ?_
  refine au_then ?_
  refine wp_seq ?_
  refine rg_lit ?_
  refine pl_new M (want_no rfl) (some 3) rfl (.cells (av 8 (w16 (fun _ => 0))) 94) (fun _ => by kernel_rfl) ?_
  intro g3 u3 M
  replace M : Mem ⟨w, []⟩ [⟨g1, .cells (av 3 (ls [.bool (v), .int .u64 h, .int .u64 l])) 24⟩, ⟨g2, .cells (av 8 (w16 (fun _ => 0))) 94⟩, ⟨g3, .cells (av 8 (w16 (fun _ => 0))) 94⟩] u3 := M
  refine pl_nil ?_
  refine au_then ?_
  refine wp_seq ?_
  refine wp_seq ?_
  refine rg_lit ?_
  refine pl_val (want_no rfl) (some 6) rfl (.int .i64 0) (fun _ => by kernel_rfl) ?_
  refine pl_nil ?_
  refine au_then ?_
  refine wp_block ?_
  refine au_loop (fun j a w' => ∃ v1 : Nat → Value, a = ⟨#[.agg (av 3 (ls [.bool (v), .int .u64 h, .int .u64 l])), .pointer (some ⟨g1, 0, none⟩), .pointer (some ⟨g2, 0, none⟩), .pointer (some ⟨g3, 0, none⟩), v1 4, v1 5, .int .i64 (j : Int), v1 7, v1 8, v1 9, v1 10, v1 11, v1 12, v1 13, v1 14, v1 15, v1 16, v1 17, v1 18, v1 19, v1 20, v1 21, v1 22, v1 23, v1 24, undef], []⟩ ∧ Mem ⟨w, []⟩ [⟨g1, .cells (av 3 (ls [.bool (v), .int .u64 h, .int .u64 l])) 24⟩, ⟨g2, .cells (av 8 (w16 (fun _ => 0))) 94⟩, ⟨g3, .cells (av 8 (w16 (cutf (gp h l) j))) 94⟩] w') 8 ⟨fun k_ => ([undef, undef, undef, undef, undef, undef, undef, undef, undef, undef, undef, undef, undef, undef, undef, undef, undef, undef, undef, undef, undef] : List Value).getD (k_ - 4) undef, by kernel_rfl, (by rw [cutf_0]; exact M)⟩ ?_ ?_
  · intro j a u0 hj hI
    obtain ⟨v1, rfl, M⟩ := hI
    refine wp_seq ?_
    refine rg_lit ?_
    refine pl_val (want_no rfl) (some 7) rfl (.bool true) (fun w => Eq.trans (b := .ok (.value (.bool (decide ((j : Int) < 8)))) w) (by kernel_rfl) (by rw [decide_eq_true (by omega)])) ?_
    refine pl_nil ?_
    refine au_then ?_
    refine wp_seq ?_
    refine wp_cond_true (by kernel_rfl) ?_
    refine wp_skip ?_
    refine au_then ?_
    refine wp_seq ?_
    refine wp_block ?_
    refine wp_seq ?_
    refine rg_lit ?_
    refine pl_val (want_no rfl) (some 8) rfl (.int .i64 (j : Int)) (fun _ => by kernel_rfl) ?_
    refine pl_val (want_no rfl) (some 4) rfl (.int .i64 (j : Int)) (fun _ => by kernel_rfl) ?_
    refine pl_nil ?_
    refine au_then ?_
    refine wp_seq ?_
    refine rg_lit ?_
    refine pl_val (want_no rfl) (some 9) rfl (.pointer (some ⟨g1, 1, none⟩)) (fun _ => by kernel_rfl) ?_
    refine pl_cell M (want_no rfl) (some 10) rfl 22 _ rfl g1 1 (by kernel_rfl) (.int .u64 h) (fun _ => by kernel_rfl) (fun w M => M.cell 0 rfl (by decide) rfl) ?_
    refine pl_val (want_no rfl) (some 5) rfl (.int .u64 h) (fun _ => by kernel_rfl) ?_
    refine pl_nil ?_
    refine au_then ?_
    refine wp_seq ?_
    refine wp_seq ?_
    refine rg_lit ?_
    refine pl_val (want_no rfl) (some 11) rfl (.int .i64 (j : Int)) (fun _ => by kernel_rfl) ?_
    by_cases c0 : (j : Int) < 4
    · skip
      refine pl_val (want_no rfl) (some 12) rfl (.bool false) (fun w => Eq.trans (b := .ok (.value (.bool (decide (4 ≤ (j : Int))))) w) (by kernel_rfl) (by rw [decide_eq_false (by omega)])) ?_
      refine pl_nil ?_
      refine au_then ?_
      refine wp_cond_false (by kernel_rfl) ?_
      refine wp_skip ?_
      refine au_then ?_
      refine rg_lit ?_
      refine pl_val (want_no rfl) (some 15) rfl (.int .i64 (j : Int)) (fun _ => by kernel_rfl) ?_
      refine pl_val (want_no rfl) (some 16) rfl (.int .u64 h) (fun _ => by kernel_rfl) ?_
      refine pl_val (want_no rfl) (some 17) rfl (.int .i64 (j : Int)) (fun _ => by kernel_rfl) ?_
      refine pl_val (want_no rfl) (some 18) rfl (.int .i64 ((j % 4 : Nat) : Int)) (fun w => Eq.trans (b := .ok (.value (.int .i64 (Int.tmod (j : Int) 4))) w) (by kernel_rfl) (by rw [Int.tmod_eq_emod_of_nonneg (by omega)]; rfl)) ?_
      refine pl_val (want_no rfl) (some 19) rfl (.int .i64 (16 * ((j % 4 : Nat) : Int))) (fun w => Eq.trans (b := .ok (.value (.int .i64 (IntKind.wrap .i64 (16 * ((j % 4 : Nat) : Int))))) w) (by kernel_rfl) (by rw [wrap64 (by omega) (by omega)])) ?_
      refine pl_val (want_no rfl) (some 20) rfl (.int .i64 (48 - (16 * ((j % 4 : Nat) : Int)))) (fun w => Eq.trans (b := .ok (.value (.int .i64 (IntKind.wrap .i64 (48 - (16 * ((j % 4 : Nat) : Int)))))) w) (by kernel_rfl) (by rw [wrap64 (by omega) (by omega)])) ?_
      refine pl_val (want_no rfl) (some 21) rfl (.int .u64 (sr h ((48 - (16 * ((j % 4 : Nat) : Int))).toNat))) (run_shrV 22 3 _ _ rfl h .i64 ((48 - (16 * ((j % 4 : Nat) : Int))).toNat) (by kernel_rfl) (nat_of (k := .i64) (by kernel_rfl) (by omega)) (by omega)) ?_
      refine pl_val (want_no rfl) (some 22) rfl (.int .u16 (gp h l j)) (fun w => Eq.trans (b := .ok (.value (.int .u16 (cv .u16 (sr h ((48 - (16 * ((j % 4 : Nat) : Int))).toNat))))) w) (by kernel_rfl) (by unfold gp; rw [if_neg (by omega)])) ?_
      refine pl_val (want_no rfl) (some 23) rfl (.pointer (some ⟨g3, j, none⟩)) (run_ix1 94 8 32 Tryz.underlying94 inz32 _ _ rfl g3 (by kernel_rfl) .i64 (j) (by kernel_rfl) (by omega)) ?_
      refine pl_put1 M (want_no rfl) rfl 32 _ _ rfl 2 g3 j (by kernel_rfl) 8 94 (w16 (cutf (gp h l) j)) rfl (.int .u16 (gp h l j)) (w16 (upd (cutf (gp h l) j) j (gp h l j))) (by kernel_rfl) inz32 (by omega) rfl rfl (fun j _ => put_w16 _ _ _ j) ?_
      intro u4 M
      replace M : Mem ⟨w, []⟩ [⟨g1, .cells (av 3 (ls [.bool (v), .int .u64 h, .int .u64 l])) 24⟩, ⟨g2, .cells (av 8 (w16 (fun _ => 0))) 94⟩, ⟨g3, .cells (av 8 (w16 (upd (cutf (gp h l) j) j (gp h l j)))) 94⟩] u4 := M
      refine pl_nil ?_
      refine au_block ?_
      refine au_then ?_
      refine rg_lit ?_
      refine pl_val (want_no rfl) (some 24) rfl (.int .i64 ((j + 1 : Nat) : Int)) (fun w => Eq.trans (b := .ok (.value (.int .i64 (IntKind.wrap .i64 ((j : Int) + 1)))) w) (by kernel_rfl) (by rw [wrap64 (by omega) (by omega)]; congr 3)) ?_
      refine pl_val (want_no rfl) (some 6) rfl (.int .i64 ((j + 1 : Nat) : Int)) (fun _ => by kernel_rfl) ?_
      refine pl_nil ?_
      refine au_then ?_
      rw [cutf_upd] at M
      exact ⟨fun k_ => ([.int .i64 (j : Int), .int .u64 h, undef, .bool true, .int .i64 (j : Int), .pointer (some ⟨g1, 1, none⟩), .int .u64 h, .int .i64 (j : Int), .bool false, v1 13, v1 14, .int .i64 (j : Int), .int .u64 h, .int .i64 (j : Int), .int .i64 ((j % 4 : Nat) : Int), .int .i64 (16 * ((j % 4 : Nat) : Int)), .int .i64 (48 - (16 * ((j % 4 : Nat) : Int))), .int .u64 (sr h ((48 - (16 * ((j % 4 : Nat) : Int))).toNat)), .int .u16 (gp h l j), .pointer (some ⟨g3, j, none⟩), .int .i64 ((j + 1 : Nat) : Int)] : List Value).getD (k_ - 4) undef, by kernel_rfl, M⟩
    · skip
      refine pl_val (want_no rfl) (some 12) rfl (.bool true) (fun w => Eq.trans (b := .ok (.value (.bool (decide (4 ≤ (j : Int))))) w) (by kernel_rfl) (by rw [decide_eq_true (by omega)])) ?_
      refine pl_nil ?_
      refine au_then ?_
      refine wp_cond_true (by kernel_rfl) ?_
      refine rg_lit ?_
      refine pl_val (want_no rfl) (some 13) rfl (.pointer (some ⟨g1, 2, none⟩)) (fun _ => by kernel_rfl) ?_
      refine pl_cell M (want_no rfl) (some 14) rfl 22 _ rfl g1 2 (by kernel_rfl) (.int .u64 l) (fun _ => by kernel_rfl) (fun w M => M.cell 0 rfl (by decide) rfl) ?_
      refine pl_val (want_no rfl) (some 5) rfl (.int .u64 l) (fun _ => by kernel_rfl) ?_
      refine pl_nil ?_
      refine au_then ?_
      refine rg_lit ?_
      refine pl_val (want_no rfl) (some 15) rfl (.int .i64 (j : Int)) (fun _ => by kernel_rfl) ?_
      refine pl_val (want_no rfl) (some 16) rfl (.int .u64 l) (fun _ => by kernel_rfl) ?_
      refine pl_val (want_no rfl) (some 17) rfl (.int .i64 (j : Int)) (fun _ => by kernel_rfl) ?_
      refine pl_val (want_no rfl) (some 18) rfl (.int .i64 ((j % 4 : Nat) : Int)) (fun w => Eq.trans (b := .ok (.value (.int .i64 (Int.tmod (j : Int) 4))) w) (by kernel_rfl) (by rw [Int.tmod_eq_emod_of_nonneg (by omega)]; rfl)) ?_
      refine pl_val (want_no rfl) (some 19) rfl (.int .i64 (16 * ((j % 4 : Nat) : Int))) (fun w => Eq.trans (b := .ok (.value (.int .i64 (IntKind.wrap .i64 (16 * ((j % 4 : Nat) : Int))))) w) (by kernel_rfl) (by rw [wrap64 (by omega) (by omega)])) ?_
      refine pl_val (want_no rfl) (some 20) rfl (.int .i64 (48 - (16 * ((j % 4 : Nat) : Int)))) (fun w => Eq.trans (b := .ok (.value (.int .i64 (IntKind.wrap .i64 (48 - (16 * ((j % 4 : Nat) : Int)))))) w) (by kernel_rfl) (by rw [wrap64 (by omega) (by omega)])) ?_
      refine pl_val (want_no rfl) (some 21) rfl (.int .u64 (sr l ((48 - (16 * ((j % 4 : Nat) : Int))).toNat))) (run_shrV 22 3 _ _ rfl l .i64 ((48 - (16 * ((j % 4 : Nat) : Int))).toNat) (by kernel_rfl) (nat_of (k := .i64) (by kernel_rfl) (by omega)) (by omega)) ?_
      refine pl_val (want_no rfl) (some 22) rfl (.int .u16 (gp h l j)) (fun w => Eq.trans (b := .ok (.value (.int .u16 (cv .u16 (sr l ((48 - (16 * ((j % 4 : Nat) : Int))).toNat))))) w) (by kernel_rfl) (by unfold gp; rw [if_pos (by omega)])) ?_
      refine pl_val (want_no rfl) (some 23) rfl (.pointer (some ⟨g3, j, none⟩)) (run_ix1 94 8 32 Tryz.underlying94 inz32 _ _ rfl g3 (by kernel_rfl) .i64 (j) (by kernel_rfl) (by omega)) ?_
      refine pl_put1 M (want_no rfl) rfl 32 _ _ rfl 2 g3 j (by kernel_rfl) 8 94 (w16 (cutf (gp h l) j)) rfl (.int .u16 (gp h l j)) (w16 (upd (cutf (gp h l) j) j (gp h l j))) (by kernel_rfl) inz32 (by omega) rfl rfl (fun j _ => put_w16 _ _ _ j) ?_
      intro u4 M
      replace M : Mem ⟨w, []⟩ [⟨g1, .cells (av 3 (ls [.bool (v), .int .u64 h, .int .u64 l])) 24⟩, ⟨g2, .cells (av 8 (w16 (fun _ => 0))) 94⟩, ⟨g3, .cells (av 8 (w16 (upd (cutf (gp h l) j) j (gp h l j)))) 94⟩] u4 := M
      refine pl_nil ?_
      refine au_block ?_
      refine au_then ?_
      refine rg_lit ?_
      refine pl_val (want_no rfl) (some 24) rfl (.int .i64 ((j + 1 : Nat) : Int)) (fun w => Eq.trans (b := .ok (.value (.int .i64 (IntKind.wrap .i64 ((j : Int) + 1)))) w) (by kernel_rfl) (by rw [wrap64 (by omega) (by omega)]; congr 3)) ?_
      refine pl_val (want_no rfl) (some 6) rfl (.int .i64 ((j + 1 : Nat) : Int)) (fun _ => by kernel_rfl) ?_
      refine pl_nil ?_
      refine au_then ?_
      rw [cutf_upd] at M
      exact ⟨fun k_ => ([.int .i64 (j : Int), .int .u64 l, undef, .bool true, .int .i64 (j : Int), .pointer (some ⟨g1, 1, none⟩), .int .u64 h, .int .i64 (j : Int), .bool true, .pointer (some ⟨g1, 2, none⟩), .int .u64 l, .int .i64 (j : Int), .int .u64 l, .int .i64 (j : Int), .int .i64 ((j % 4 : Nat) : Int), .int .i64 (16 * ((j % 4 : Nat) : Int)), .int .i64 (48 - (16 * ((j % 4 : Nat) : Int))), .int .u64 (sr l ((48 - (16 * ((j % 4 : Nat) : Int))).toNat)), .int .u16 (gp h l j), .pointer (some ⟨g3, j, none⟩), .int .i64 ((j + 1 : Nat) : Int)] : List Value).getD (k_ - 4) undef, by kernel_rfl, M⟩
  · intro a u0 hI
    obtain ⟨v1, rfl, M⟩ := hI
    refine wp_seq ?_
    refine rg_lit ?_
    refine pl_val (want_no rfl) (some 7) rfl (.bool false) (fun w => Eq.trans (b := .ok (.value (.bool (decide ((8 : Int) < 8)))) w) (by kernel_rfl) (by rw [decide_eq_false (by omega)])) ?_
    refine pl_nil ?_
    refine au_then ?_
    refine wp_seq ?_
    refine wp_cond_false (by kernel_rfl) ?_
    refine wp_exit ?_
    refine au_then_exit ?_
    refine au_then_exit ?_
    refine au_block_exit ?_
    refine au_then ?_
    refine wp_seq ?_
    refine rg_lit ?_
    refine pl_load M (want_no rfl) (some 25) rfl 94 _ rfl 2 g3 0 (by kernel_rfl) 8 94 (w16 (cutf (gp h l) 8)) rfl 8 (w16 (cutf (gp h l) 8)) (fun j _ => by rw [Nat.zero_add]) (by decide) _ Tryz.underlying94 rfl inz94 ?_
    refine pl_put M (want_no rfl) rfl 94 _ _ rfl 1 g2 0 (by kernel_rfl) 8 94 (w16 (fun _ => 0)) rfl 8 (w16 (cutf (gp h l) 8)) (w16 (cutf (gp h l) 8)) (by kernel_rfl) inz94 (by decide) (fun _ _ => rfl) (fun j hj => by rw [if_pos (by omega), Nat.sub_zero]) ?_
    intro u4 M
    replace M : Mem ⟨w, []⟩ [⟨g1, .cells (av 3 (ls [.bool (v), .int .u64 h, .int .u64 l])) 24⟩, ⟨g2, .cells (av 8 (w16 (cutf (gp h l) 8))) 94⟩, ⟨g3, .cells (av 8 (w16 (cutf (gp h l) 8))) 94⟩] u4 := M
    refine pl_nil ?_
    refine au_then ?_
    refine wp_ret ?_
    have e0 : (w16 (ggs h l)) = (w16 (cutf (gp h l) 8)) := rfl
    exact bodyPost_ret (v := .agg (av 8 (w16 (cutf (gp h l) 8)))) (results_cell_row Tryz.results73 _ _ g2 94 (av 8 (w16 (cutf (gp h l) 8))) (0, 0) _ (by kernel_rfl) (M.get 1 rfl) Tryz.underlying94 rfl (by rw [av_size]; exact inz94)) (by kernel_rfl) ⟨by rw [e0], below_grown M.old⟩

def adH (f : Nat → Int) : Int := (uo (sl (uo (sl (uo (sl (uo (sl 0 16) (cv .u64 (f 0))) 16) (cv .u64 (f 1))) 16) (cv .u64 (f 2))) 16) (cv .u64 (f 3)))
def adL (f : Nat → Int) : Int := (uo (sl (uo (sl (uo (sl (uo (sl 0 16) (cv .u64 (f 4))) 16) (cv .u64 (f 5))) 16) (cv .u64 (f 6))) 16) (cv .u64 (f 7)))
set_option maxRecDepth 100000 in
set_option maxHeartbeats 4000000 in
set_option linter.unusedSimpArgs false in
theorem c_addr (f : Nat → Int) (w : World) (hL : Laid w)  :
    Calls Tryz.prog 90 #[.agg (av 8 (w16 f))] w fun r w' => r = .returned (.agg (av 3 (ls [.bool true, .int .u64 (adH f), .int .u64 (adL f)]))) ∧ Below w.heap.size w w' := by
  go_enter Tryz.func90, Tryz.ntmps90
  have M := Mem.start hL
  refine wp_seq ?_
  refine rg_lit ?_
  refine pl_new M (want_no rfl) (some 1) rfl (.cells (av 8 (w16 f)) 94) (fun _ => by kernel_rfl) ?_
  intro g1 u1 M
  replace M : Mem ⟨w, []⟩ [⟨g1, .cells (av 8 (w16 f)) 94⟩] u1 := M
  refine pl_new M (want_no rfl) (some 2) rfl (.cells (av 3 (ls [.bool false, .int .u64 0, .int .u64 0])) 24) (fun _ => by kernel_rfl) ?_
  intro g2 u2 M
  replace M : Mem ⟨w, []⟩ [⟨g1, .cells (av 8 (w16 f)) 94⟩, ⟨g2, .cells (av 3 (ls [.bool false, .int .u64 0, .int .u64 0])) 24⟩] u2 := M
  refine pl_nil ?_
  refine au_then ?_
  refine wp_seq ?_
  refine rg_lit ?_
  refine pl_val (want_no rfl) (some 5) rfl (.agg (av 3 (ls [.bool true, .int .u64 0, .int .u64 0]))) (fun _ => by kernel_rfl) ?_
  refine pl_new M (want_no rfl) (some 3) rfl (.cells (av 3 (ls [.bool false, .int .u64 0, .int .u64 0])) 24) (fun _ => by kernel_rfl) ?_
  intro g3 u3 M
  replace M : Mem ⟨w, []⟩ [⟨g1, .cells (av 8 (w16 f)) 94⟩, ⟨g2, .cells (av 3 (ls [.bool false, .int .u64 0, .int .u64 0])) 24⟩, ⟨g3, .cells (av 3 (ls [.bool false, .int .u64 0, .int .u64 0])) 24⟩] u3 := M
  refine pl_put M (want_no rfl) rfl 24 _ _ rfl 2 g3 0 (by kernel_rfl) 3 24 (ls [.bool false, .int .u64 0, .int .u64 0]) rfl 3 (ls [.bool true, .int .u64 0, .int .u64 0]) (ls [.bool true, .int .u64 0, .int .u64 0]) (by kernel_rfl) inz24 (by decide) (one_ls _ rfl) (fun j hj => by rw [if_pos (by omega), Nat.sub_zero]) ?_
  intro u4 M
  replace M : Mem ⟨w, []⟩ [⟨g1, .cells (av 8 (w16 f)) 94⟩, ⟨g2, .cells (av 3 (ls [.bool false, .int .u64 0, .int .u64 0])) 24⟩, ⟨g3, .cells (av 3 (ls [.bool true, .int .u64 0, .int .u64 0])) 24⟩] u4 := M
  refine pl_nil ?_
  refine au_then ?_
  refine wp_seq ?_
  refine wp_seq ?_
  refine rg_lit ?_
  refine pl_val (want_no rfl) (some 6) rfl (.int .i64 0) (fun _ => by kernel_rfl) ?_
  refine pl_nil ?_
  refine au_then ?_
  refine wp_block ?_
  refine wp_loop_rounds 5 ?_
  refine rounds_go ?_
  refine wp_seq ?_
  refine rg_lit ?_
  refine pl_val (want_no rfl) (some 7) rfl (.bool true) (fun _ => by kernel_rfl) ?_
  refine pl_nil ?_
  refine au_then ?_
  refine wp_seq ?_
  refine wp_cond_true (by kernel_rfl) ?_
  refine wp_skip ?_
  refine au_then ?_
  refine wp_seq ?_
  refine wp_block ?_
  refine wp_seq ?_
  refine rg_lit ?_
  refine pl_val (want_no rfl) (some 8) rfl (.int .i64 0) (fun _ => by kernel_rfl) ?_
  refine pl_val (want_no rfl) (some 4) rfl (.int .i64 0) (fun _ => by kernel_rfl) ?_
  refine pl_nil ?_
  refine au_then ?_
  refine wp_seq ?_
  refine rg_tail M 9 (by kernel_rfl) (by kernel_rfl) ?_
  simp only [List.take_succ_cons, List.take_zero]
  refine k_val (want_no rfl) (some 9) rfl (.pointer (some ⟨g3, 1, none⟩)) (fun _ => by kernel_rfl) ?_
  refine k_cell M (want_no rfl) (some 10) rfl 22 _ rfl g3 1 (by kernel_rfl) (.int .u64 0) (fun _ => by kernel_rfl) (fun w M => M.cell 2 rfl (by decide) rfl) ?_
  refine k_val (want_no rfl) (some 11) rfl (.int .u64 (sl 0 16)) (fun _ => by kernel_rfl) ?_
  refine k_val (want_no rfl) (some 12) rfl (.int .i64 0) (fun _ => by kernel_rfl) ?_
  refine k_val (want_no rfl) (some 13) rfl (.pointer (some ⟨g1, 0, none⟩)) (fun _ => by kernel_rfl) ?_
  refine k_cell M (want_no rfl) (some 14) rfl 32 _ rfl g1 0 (by kernel_rfl) (.int .u16 (f 0)) (fun _ => by kernel_rfl) (fun w M => M.cell 0 rfl (by decide) rfl) ?_
  refine k_val (want_no rfl) (some 15) rfl (.int .u64 (cv .u64 (f 0))) (fun _ => by kernel_rfl) ?_
  refine k_val (want_no rfl) (some 16) rfl (.int .u64 (uo (sl 0 16) (cv .u64 (f 0)))) (fun _ => by kernel_rfl) ?_
  refine k_val (want_no rfl) (some 17) rfl (.pointer (some ⟨g3, 1, none⟩)) (fun _ => by kernel_rfl) ?_
  refine kl_nil ?_
  intro u5 M
  replace M : Mem ⟨w, []⟩ [⟨g1, .cells (av 8 (w16 f)) 94⟩, ⟨g2, .cells (av 3 (ls [.bool false, .int .u64 0, .int .u64 0])) 24⟩, ⟨g3, .cells (av 3 (ls [.bool true, .int .u64 0, .int .u64 0])) 24⟩] u5 := M
  refine pl_put1 M (want_no rfl) rfl 22 _ _ rfl 2 g3 1 (by kernel_rfl) 3 24 (ls [.bool true, .int .u64 0, .int .u64 0]) rfl (.int .u64 (uo (sl 0 16) (cv .u64 (f 0)))) (ls [.bool true, .int .u64 (uo (sl 0 16) (cv .u64 (f 0))), .int .u64 0]) (by kernel_rfl) inz22 (by decide) rfl rfl (put_ls _ 1 _ _ rfl) ?_
  intro u6 M
  replace M : Mem ⟨w, []⟩ [⟨g1, .cells (av 8 (w16 f)) 94⟩, ⟨g2, .cells (av 3 (ls [.bool false, .int .u64 0, .int .u64 0])) 24⟩, ⟨g3, .cells (av 3 (ls [.bool true, .int .u64 (uo (sl 0 16) (cv .u64 (f 0))), .int .u64 0])) 24⟩] u6 := M
  refine pl_nil ?_
  refine au_then ?_
  refine rg_tail M 10 (by kernel_rfl) (by kernel_rfl) ?_
  simp only [List.take_succ_cons, List.take_zero]
  refine k_val (want_no rfl) (some 18) rfl (.pointer (some ⟨g3, 2, none⟩)) (fun _ => by kernel_rfl) ?_
  refine k_cell M (want_no rfl) (some 19) rfl 22 _ rfl g3 2 (by kernel_rfl) (.int .u64 0) (fun _ => by kernel_rfl) (fun w M => M.cell 2 rfl (by decide) rfl) ?_
  refine k_val (want_no rfl) (some 20) rfl (.int .u64 (sl 0 16)) (fun _ => by kernel_rfl) ?_
  refine k_val (want_no rfl) (some 21) rfl (.int .i64 0) (fun _ => by kernel_rfl) ?_
  refine k_val (want_no rfl) (some 22) rfl (.int .i64 4) (fun _ => by kernel_rfl) ?_
  refine k_val (want_no rfl) (some 23) rfl (.pointer (some ⟨g1, 4, none⟩)) (fun _ => by kernel_rfl) ?_
  refine k_cell M (want_no rfl) (some 24) rfl 32 _ rfl g1 4 (by kernel_rfl) (.int .u16 (f 4)) (fun _ => by kernel_rfl) (fun w M => M.cell 0 rfl (by decide) rfl) ?_
  refine k_val (want_no rfl) (some 25) rfl (.int .u64 (cv .u64 (f 4))) (fun _ => by kernel_rfl) ?_
  refine k_val (want_no rfl) (some 26) rfl (.int .u64 (uo (sl 0 16) (cv .u64 (f 4)))) (fun _ => by kernel_rfl) ?_
  refine k_val (want_no rfl) (some 27) rfl (.pointer (some ⟨g3, 2, none⟩)) (fun _ => by kernel_rfl) ?_
  refine kl_nil ?_
  intro u7 M
  replace M : Mem ⟨w, []⟩ [⟨g1, .cells (av 8 (w16 f)) 94⟩, ⟨g2, .cells (av 3 (ls [.bool false, .int .u64 0, .int .u64 0])) 24⟩, ⟨g3, .cells (av 3 (ls [.bool true, .int .u64 (uo (sl 0 16) (cv .u64 (f 0))), .int .u64 0])) 24⟩] u7 := M
  refine pl_put1 M (want_no rfl) rfl 22 _ _ rfl 2 g3 2 (by kernel_rfl) 3 24 (ls [.bool true, .int .u64 (uo (sl 0 16) (cv .u64 (f 0))), .int .u64 0]) rfl (.int .u64 (uo (sl 0 16) (cv .u64 (f 4)))) (ls [.bool true, .int .u64 (uo (sl 0 16) (cv .u64 (f 0))), .int .u64 (uo (sl 0 16) (cv .u64 (f 4)))]) (by kernel_rfl) inz22 (by decide) rfl rfl (put_ls _ 2 _ _ rfl) ?_
  intro u8 M
  replace M : Mem ⟨w, []⟩ [⟨g1, .cells (av 8 (w16 f)) 94⟩, ⟨g2, .cells (av 3 (ls [.bool false, .int .u64 0, .int .u64 0])) 24⟩, ⟨g3, .cells (av 3 (ls [.bool true, .int .u64 (uo (sl 0 16) (cv .u64 (f 0))), .int .u64 (uo (sl 0 16) (cv .u64 (f 4)))])) 24⟩] u8 := M
  refine pl_nil ?_
  refine au_block ?_
  refine au_then ?_
  refine rg_lit ?_
  refine pl_val (want_no rfl) (some 28) rfl (.int .i64 1) (fun _ => by kernel_rfl) ?_
  refine pl_val (want_no rfl) (some 6) rfl (.int .i64 1) (fun _ => by kernel_rfl) ?_
  refine pl_nil ?_
  refine au_then ?_
  refine rounds_go ?_
  refine wp_seq ?_
  refine rg_lit ?_
  refine pl_val (want_no rfl) (some 7) rfl (.bool true) (fun _ => by kernel_rfl) ?_
  refine pl_nil ?_
  refine au_then ?_
  refine wp_seq ?_
  refine wp_cond_true (by kernel_rfl) ?_
  refine wp_skip ?_
  refine au_then ?_
  refine wp_seq ?_
  refine wp_block ?_
  refine wp_seq ?_
  refine rg_lit ?_
  refine pl_val (want_no rfl) (some 8) rfl (.int .i64 1) (fun _ => by kernel_rfl) ?_
  refine pl_val (want_no rfl) (some 4) rfl (.int .i64 1) (fun _ => by kernel_rfl) ?_
  refine pl_nil ?_
  refine au_then ?_
  refine wp_seq ?_
  refine rg_tail M 9 (by kernel_rfl) (by kernel_rfl) ?_
  simp only [List.take_succ_cons, List.take_zero]
  refine k_val (want_no rfl) (some 9) rfl (.pointer (some ⟨g3, 1, none⟩)) (fun _ => by kernel_rfl) ?_
  refine k_cell M (want_no rfl) (some 10) rfl 22 _ rfl g3 1 (by kernel_rfl) (.int .u64 (uo (sl 0 16) (cv .u64 (f 0)))) (fun _ => by kernel_rfl) (fun w M => M.cell 2 rfl (by decide) rfl) ?_
  refine k_val (want_no rfl) (some 11) rfl (.int .u64 (sl (uo (sl 0 16) (cv .u64 (f 0))) 16)) (fun _ => by kernel_rfl) ?_
  refine k_val (want_no rfl) (some 12) rfl (.int .i64 1) (fun _ => by kernel_rfl) ?_
  refine k_val (want_no rfl) (some 13) rfl (.pointer (some ⟨g1, 1, none⟩)) (fun _ => by kernel_rfl) ?_
  refine k_cell M (want_no rfl) (some 14) rfl 32 _ rfl g1 1 (by kernel_rfl) (.int .u16 (f 1)) (fun _ => by kernel_rfl) (fun w M => M.cell 0 rfl (by decide) rfl) ?_
  refine k_val (want_no rfl) (some 15) rfl (.int .u64 (cv .u64 (f 1))) (fun _ => by kernel_rfl) ?_
  refine k_val (want_no rfl) (some 16) rfl (.int .u64 (uo (sl (uo (sl 0 16) (cv .u64 (f 0))) 16) (cv .u64 (f 1)))) (fun _ => by kernel_rfl) ?_
  refine k_val (want_no rfl) (some 17) rfl (.pointer (some ⟨g3, 1, none⟩)) (fun _ => by kernel_rfl) ?_
  refine kl_nil ?_
  intro u9 M
  replace M : Mem ⟨w, []⟩ [⟨g1, .cells (av 8 (w16 f)) 94⟩, ⟨g2, .cells (av 3 (ls [.bool false, .int .u64 0, .int .u64 0])) 24⟩, ⟨g3, .cells (av 3 (ls [.bool true, .int .u64 (uo (sl 0 16) (cv .u64 (f 0))), .int .u64 (uo (sl 0 16) (cv .u64 (f 4)))])) 24⟩] u9 := M
  refine pl_put1 M (want_no rfl) rfl 22 _ _ rfl 2 g3 1 (by kernel_rfl) 3 24 (ls [.bool true, .int .u64 (uo (sl 0 16) (cv .u64 (f 0))), .int .u64 (uo (sl 0 16) (cv .u64 (f 4)))]) rfl (.int .u64 (uo (sl (uo (sl 0 16) (cv .u64 (f 0))) 16) (cv .u64 (f 1)))) (ls [.bool true, .int .u64 (uo (sl (uo (sl 0 16) (cv .u64 (f 0))) 16) (cv .u64 (f 1))), .int .u64 (uo (sl 0 16) (cv .u64 (f 4)))]) (by kernel_rfl) inz22 (by decide) rfl rfl (put_ls _ 1 _ _ rfl) ?_
  intro u10 M
  replace M : Mem ⟨w, []⟩ [⟨g1, .cells (av 8 (w16 f)) 94⟩, ⟨g2, .cells (av 3 (ls [.bool false, .int .u64 0, .int .u64 0])) 24⟩, ⟨g3, .cells (av 3 (ls [.bool true, .int .u64 (uo (sl (uo (sl 0 16) (cv .u64 (f 0))) 16) (cv .u64 (f 1))), .int .u64 (uo (sl 0 16) (cv .u64 (f 4)))])) 24⟩] u10 := M
  refine pl_nil ?_
  refine au_then ?_
  refine rg_tail M 10 (by kernel_rfl) (by kernel_rfl) ?_
  simp only [List.take_succ_cons, List.take_zero]
  refine k_val (want_no rfl) (some 18) rfl (.pointer (some ⟨g3, 2, none⟩)) (fun _ => by kernel_rfl) ?_
  refine k_cell M (want_no rfl) (some 19) rfl 22 _ rfl g3 2 (by kernel_rfl) (.int .u64 (uo (sl 0 16) (cv .u64 (f 4)))) (fun _ => by kernel_rfl) (fun w M => M.cell 2 rfl (by decide) rfl) ?_
  refine k_val (want_no rfl) (some 20) rfl (.int .u64 (sl (uo (sl 0 16) (cv .u64 (f 4))) 16)) (fun _ => by kernel_rfl) ?_
  refine k_val (want_no rfl) (some 21) rfl (.int .i64 1) (fun _ => by kernel_rfl) ?_
  refine k_val (want_no rfl) (some 22) rfl (.int .i64 5) (fun _ => by kernel_rfl) ?_
  refine k_val (want_no rfl) (some 23) rfl (.pointer (some ⟨g1, 5, none⟩)) (fun _ => by kernel_rfl) ?_
  refine k_cell M (want_no rfl) (some 24) rfl 32 _ rfl g1 5 (by kernel_rfl) (.int .u16 (f 5)) (fun _ => by kernel_rfl) (fun w M => M.cell 0 rfl (by decide) rfl) ?_
  refine k_val (want_no rfl) (some 25) rfl (.int .u64 (cv .u64 (f 5))) (fun _ => by kernel_rfl) ?_
  refine k_val (want_no rfl) (some 26) rfl (.int .u64 (uo (sl (uo (sl 0 16) (cv .u64 (f 4))) 16) (cv .u64 (f 5)))) (fun _ => by kernel_rfl) ?_
  refine k_val (want_no rfl) (some 27) rfl (.pointer (some ⟨g3, 2, none⟩)) (fun _ => by kernel_rfl) ?_
  refine kl_nil ?_
  intro u11 M
  replace M : Mem ⟨w, []⟩ [⟨g1, .cells (av 8 (w16 f)) 94⟩, ⟨g2, .cells (av 3 (ls [.bool false, .int .u64 0, .int .u64 0])) 24⟩, ⟨g3, .cells (av 3 (ls [.bool true, .int .u64 (uo (sl (uo (sl 0 16) (cv .u64 (f 0))) 16) (cv .u64 (f 1))), .int .u64 (uo (sl 0 16) (cv .u64 (f 4)))])) 24⟩] u11 := M
  refine pl_put1 M (want_no rfl) rfl 22 _ _ rfl 2 g3 2 (by kernel_rfl) 3 24 (ls [.bool true, .int .u64 (uo (sl (uo (sl 0 16) (cv .u64 (f 0))) 16) (cv .u64 (f 1))), .int .u64 (uo (sl 0 16) (cv .u64 (f 4)))]) rfl (.int .u64 (uo (sl (uo (sl 0 16) (cv .u64 (f 4))) 16) (cv .u64 (f 5)))) (ls [.bool true, .int .u64 (uo (sl (uo (sl 0 16) (cv .u64 (f 0))) 16) (cv .u64 (f 1))), .int .u64 (uo (sl (uo (sl 0 16) (cv .u64 (f 4))) 16) (cv .u64 (f 5)))]) (by kernel_rfl) inz22 (by decide) rfl rfl (put_ls _ 2 _ _ rfl) ?_
  intro u12 M
  replace M : Mem ⟨w, []⟩ [⟨g1, .cells (av 8 (w16 f)) 94⟩, ⟨g2, .cells (av 3 (ls [.bool false, .int .u64 0, .int .u64 0])) 24⟩, ⟨g3, .cells (av 3 (ls [.bool true, .int .u64 (uo (sl (uo (sl 0 16) (cv .u64 (f 0))) 16) (cv .u64 (f 1))), .int .u64 (uo (sl (uo (sl 0 16) (cv .u64 (f 4))) 16) (cv .u64 (f 5)))])) 24⟩] u12 := M
  refine pl_nil ?_
  refine au_block ?_
  refine au_then ?_
  refine rg_lit ?_
  refine pl_val (want_no rfl) (some 28) rfl (.int .i64 2) (fun _ => by kernel_rfl) ?_
  refine pl_val (want_no rfl) (some 6) rfl (.int .i64 2) (fun _ => by kernel_rfl) ?_
  refine pl_nil ?_
  refine au_then ?_
  refine rounds_go ?_
  refine wp_seq ?_
  refine rg_lit ?_
  refine pl_val (want_no rfl) (some 7) rfl (.bool true) (fun _ => by kernel_rfl) ?_
  refine pl_nil ?_
  refine au_then ?_
  refine wp_seq ?_
  refine wp_cond_true (by kernel_rfl) ?_
  refine wp_skip ?_
  refine au_then ?_
  refine wp_seq ?_
  refine wp_block ?_
  refine wp_seq ?_
  refine rg_lit ?_
  refine pl_val (want_no rfl) (some 8) rfl (.int .i64 2) (fun _ => by kernel_rfl) ?_
  refine pl_val (want_no rfl) (some 4) rfl (.int .i64 2) (fun _ => by kernel_rfl) ?_
  refine pl_nil ?_
  refine au_then ?_
  refine wp_seq ?_
  refine rg_tail M 9 (by kernel_rfl) (by kernel_rfl) ?_
  simp only [List.take_succ_cons, List.take_zero]
  refine k_val (want_no rfl) (some 9) rfl (.pointer (some ⟨g3, 1, none⟩)) (fun _ => by kernel_rfl) ?_
  refine k_cell M (want_no rfl) (some 10) rfl 22 _ rfl g3 1 (by kernel_rfl) (.int .u64 (uo (sl (uo (sl 0 16) (cv .u64 (f 0))) 16) (cv .u64 (f 1)))) (fun _ => by kernel_rfl) (fun w M => M.cell 2 rfl (by decide) rfl) ?_
  refine k_val (want_no rfl) (some 11) rfl (.int .u64 (sl (uo (sl (uo (sl 0 16) (cv .u64 (f 0))) 16) (cv .u64 (f 1))) 16)) (fun _ => by kernel_rfl) ?_
  refine k_val (want_no rfl) (some 12) rfl (.int .i64 2) (fun _ => by kernel_rfl) ?_
  refine k_val (want_no rfl) (some 13) rfl (.pointer (some ⟨g1, 2, none⟩)) (fun _ => by kernel_rfl) ?_
  refine k_cell M (want_no rfl) (some 14) rfl 32 _ rfl g1 2 (by kernel_rfl) (.int .u16 (f 2)) (fun _ => by kernel_rfl) (fun w M => M.cell 0 rfl (by decide) rfl) ?_
  refine k_val (want_no rfl) (some 15) rfl (.int .u64 (cv .u64 (f 2))) (fun _ => by kernel_rfl) ?_
  refine k_val (want_no rfl) (some 16) rfl (.int .u64 (uo (sl (uo (sl (uo (sl 0 16) (cv .u64 (f 0))) 16) (cv .u64 (f 1))) 16) (cv .u64 (f 2)))) (fun _ => by kernel_rfl) ?_
  refine k_val (want_no rfl) (some 17) rfl (.pointer (some ⟨g3, 1, none⟩)) (fun _ => by kernel_rfl) ?_
  refine kl_nil ?_
  intro u13 M
  replace M : Mem ⟨w, []⟩ [⟨g1, .cells (av 8 (w16 f)) 94⟩, ⟨g2, .cells (av 3 (ls [.bool false, .int .u64 0, .int .u64 0])) 24⟩, ⟨g3, .cells (av 3 (ls [.bool true, .int .u64 (uo (sl (uo (sl 0 16) (cv .u64 (f 0))) 16) (cv .u64 (f 1))), .int .u64 (uo (sl (uo (sl 0 16) (cv .u64 (f 4))) 16) (cv .u64 (f 5)))])) 24⟩] u13 := M
  refine pl_put1 M (want_no rfl) rfl 22 _ _ rfl 2 g3 1 (by kernel_rfl) 3 24 (ls [.bool true, .int .u64 (uo (sl (uo (sl 0 16) (cv .u64 (f 0))) 16) (cv .u64 (f 1))), .int .u64 (uo (sl (uo (sl 0 16) (cv .u64 (f 4))) 16) (cv .u64 (f 5)))]) rfl (.int .u64 (uo (sl (uo (sl (uo (sl 0 16) (cv .u64 (f 0))) 16) (cv .u64 (f 1))) 16) (cv .u64 (f 2)))) (ls [.bool true, .int .u64 (uo (sl (uo (sl (uo (sl 0 16) (cv .u64 (f 0))) 16) (cv .u64 (f 1))) 16) (cv .u64 (f 2))), .int .u64 (uo (sl (uo (sl 0 16) (cv .u64 (f 4))) 16) (cv .u64 (f 5)))]) (by kernel_rfl) inz22 (by decide) rfl rfl (put_ls _ 1 _ _ rfl) ?_
  intro u14 M
  replace M : Mem ⟨w, []⟩ [⟨g1, .cells (av 8 (w16 f)) 94⟩, ⟨g2, .cells (av 3 (ls [.bool false, .int .u64 0, .int .u64 0])) 24⟩, ⟨g3, .cells (av 3 (ls [.bool true, .int .u64 (uo (sl (uo (sl (uo (sl 0 16) (cv .u64 (f 0))) 16) (cv .u64 (f 1))) 16) (cv .u64 (f 2))), .int .u64 (uo (sl (uo (sl 0 16) (cv .u64 (f 4))) 16) (cv .u64 (f 5)))])) 24⟩] u14 := M
  refine pl_nil ?_
  refine au_then ?_
  refine rg_tail M 10 (by kernel_rfl) (by kernel_rfl) ?_
  simp only [List.take_succ_cons, List.take_zero]
  refine k_val (want_no rfl) (some 18) rfl (.pointer (some ⟨g3, 2, none⟩)) (fun _ => by kernel_rfl) ?_
  refine k_cell M (want_no rfl) (some 19) rfl 22 _ rfl g3 2 (by kernel_rfl) (.int .u64 (uo (sl (uo (sl 0 16) (cv .u64 (f 4))) 16) (cv .u64 (f 5)))) (fun _ => by kernel_rfl) (fun w M => M.cell 2 rfl (by decide) rfl) ?_
  refine k_val (want_no rfl) (some 20) rfl (.int .u64 (sl (uo (sl (uo (sl 0 16) (cv .u64 (f 4))) 16) (cv .u64 (f 5))) 16)) (fun _ => by kernel_rfl) ?_
  refine k_val (want_no rfl) (some 21) rfl (.int .i64 2) (fun _ => by kernel_rfl) ?_
  refine k_val (want_no rfl) (some 22) rfl (.int .i64 6) (fun _ => by kernel_rfl) ?_
  refine k_val (want_no rfl) (some 23) rfl (.pointer (some ⟨g1, 6, none⟩)) (fun _ => by kernel_rfl) ?_
  refine k_cell M (want_no rfl) (some 24) rfl 32 _ rfl g1 6 (by kernel_rfl) (.int .u16 (f 6)) (fun _ => by kernel_rfl) (fun w M => M.cell 0 rfl (by decide) rfl) ?_
  refine k_val (want_no rfl) (some 25) rfl (.int .u64 (cv .u64 (f 6))) (fun _ => by kernel_rfl) ?_
  refine k_val (want_no rfl) (some 26) rfl (.int .u64 (uo (sl (uo (sl (uo (sl 0 16) (cv .u64 (f 4))) 16) (cv .u64 (f 5))) 16) (cv .u64 (f 6)))) (fun _ => by kernel_rfl) ?_
  refine k_val (want_no rfl) (some 27) rfl (.pointer (some ⟨g3, 2, none⟩)) (fun _ => by kernel_rfl) ?_
  refine kl_nil ?_
  intro u15 M
  replace M : Mem ⟨w, []⟩ [⟨g1, .cells (av 8 (w16 f)) 94⟩, ⟨g2, .cells (av 3 (ls [.bool false, .int .u64 0, .int .u64 0])) 24⟩, ⟨g3, .cells (av 3 (ls [.bool true, .int .u64 (uo (sl (uo (sl (uo (sl 0 16) (cv .u64 (f 0))) 16) (cv .u64 (f 1))) 16) (cv .u64 (f 2))), .int .u64 (uo (sl (uo (sl 0 16) (cv .u64 (f 4))) 16) (cv .u64 (f 5)))])) 24⟩] u15 := M
  refine pl_put1 M (want_no rfl) rfl 22 _ _ rfl 2 g3 2 (by kernel_rfl) 3 24 (ls [.bool true, .int .u64 (uo (sl (uo (sl (uo (sl 0 16) (cv .u64 (f 0))) 16) (cv .u64 (f 1))) 16) (cv .u64 (f 2))), .int .u64 (uo (sl (uo (sl 0 16) (cv .u64 (f 4))) 16) (cv .u64 (f 5)))]) rfl (.int .u64 (uo (sl (uo (sl (uo (sl 0 16) (cv .u64 (f 4))) 16) (cv .u64 (f 5))) 16) (cv .u64 (f 6)))) (ls [.bool true, .int .u64 (uo (sl (uo (sl (uo (sl 0 16) (cv .u64 (f 0))) 16) (cv .u64 (f 1))) 16) (cv .u64 (f 2))), .int .u64 (uo (sl (uo (sl (uo (sl 0 16) (cv .u64 (f 4))) 16) (cv .u64 (f 5))) 16) (cv .u64 (f 6)))]) (by kernel_rfl) inz22 (by decide) rfl rfl (put_ls _ 2 _ _ rfl) ?_
  intro u16 M
  replace M : Mem ⟨w, []⟩ [⟨g1, .cells (av 8 (w16 f)) 94⟩, ⟨g2, .cells (av 3 (ls [.bool false, .int .u64 0, .int .u64 0])) 24⟩, ⟨g3, .cells (av 3 (ls [.bool true, .int .u64 (uo (sl (uo (sl (uo (sl 0 16) (cv .u64 (f 0))) 16) (cv .u64 (f 1))) 16) (cv .u64 (f 2))), .int .u64 (uo (sl (uo (sl (uo (sl 0 16) (cv .u64 (f 4))) 16) (cv .u64 (f 5))) 16) (cv .u64 (f 6)))])) 24⟩] u16 := M
  refine pl_nil ?_
  refine au_block ?_
  refine au_then ?_
  refine rg_lit ?_
  refine pl_val (want_no rfl) (some 28) rfl (.int .i64 3) (fun _ => by kernel_rfl) ?_
  refine pl_val (want_no rfl) (some 6) rfl (.int .i64 3) (fun _ => by kernel_rfl) ?_
  refine pl_nil ?_
  refine au_then ?_
  refine rounds_go ?_
  refine wp_seq ?_
  refine rg_lit ?_
  refine pl_val (want_no rfl) (some 7) rfl (.bool true) (fun _ => by kernel_rfl) ?_
  refine pl_nil ?_
  refine au_then ?_
  refine wp_seq ?_
  refine wp_cond_true (by kernel_rfl) ?_
  refine wp_skip ?_
  refine au_then ?_
  refine wp_seq ?_
  refine wp_block ?_
  refine wp_seq ?_
  refine rg_lit ?_
  refine pl_val (want_no rfl) (some 8) rfl (.int .i64 3) (fun _ => by kernel_rfl) ?_
  refine pl_val (want_no rfl) (some 4) rfl (.int .i64 3) (fun _ => by kernel_rfl) ?_
  refine pl_nil ?_
  refine au_then ?_
  refine wp_seq ?_
  refine rg_tail M 9 (by kernel_rfl) (by kernel_rfl) ?_
  simp only [List.take_succ_cons, List.take_zero]
  refine k_val (want_no rfl) (some 9) rfl (.pointer (some ⟨g3, 1, none⟩)) (fun _ => by kernel_rfl) ?_
  refine k_cell M (want_no rfl) (some 10) rfl 22 _ rfl g3 1 (by kernel_rfl) (.int .u64 (uo (sl (uo (sl (uo (sl 0 16) (cv .u64 (f 0))) 16) (cv .u64 (f 1))) 16) (cv .u64 (f 2)))) (fun _ => by kernel_rfl) (fun w M => M.cell 2 rfl (by decide) rfl) ?_
  refine k_val (want_no rfl) (some 11) rfl (.int .u64 (sl (uo (sl (uo (sl (uo (sl 0 16) (cv .u64 (f 0))) 16) (cv .u64 (f 1))) 16) (cv .u64 (f 2))) 16)) (fun _ => by kernel_rfl) ?_
  refine k_val (want_no rfl) (some 12) rfl (.int .i64 3) (fun _ => by kernel_rfl) ?_
  refine k_val (want_no rfl) (some 13) rfl (.pointer (some ⟨g1, 3, none⟩)) (fun _ => by kernel_rfl) ?_
  refine k_cell M (want_no rfl) (some 14) rfl 32 _ rfl g1 3 (by kernel_rfl) (.int .u16 (f 3)) (fun _ => by kernel_rfl) (fun w M => M.cell 0 rfl (by decide) rfl) ?_
  refine k_val (want_no rfl) (some 15) rfl (.int .u64 (cv .u64 (f 3))) (fun _ => by kernel_rfl) ?_
  refine k_val (want_no rfl) (some 16) rfl (.int .u64 (uo (sl (uo (sl (uo (sl (uo (sl 0 16) (cv .u64 (f 0))) 16) (cv .u64 (f 1))) 16) (cv .u64 (f 2))) 16) (cv .u64 (f 3)))) (fun _ => by kernel_rfl) ?_
  refine k_val (want_no rfl) (some 17) rfl (.pointer (some ⟨g3, 1, none⟩)) (fun _ => by kernel_rfl) ?_
  refine kl_nil ?_
  intro u17 M
  replace M : Mem ⟨w, []⟩ [⟨g1, .cells (av 8 (w16 f)) 94⟩, ⟨g2, .cells (av 3 (ls [.bool false, .int .u64 0, .int .u64 0])) 24⟩, ⟨g3, .cells (av 3 (ls [.bool true, .int .u64 (uo (sl (uo (sl (uo (sl 0 16) (cv .u64 (f 0))) 16) (cv .u64 (f 1))) 16) (cv .u64 (f 2))), .int .u64 (uo (sl (uo (sl (uo (sl 0 16) (cv .u64 (f 4))) 16) (cv .u64 (f 5))) 16) (cv .u64 (f 6)))])) 24⟩] u17 := M
  refine pl_put1 M (want_no rfl) rfl 22 _ _ rfl 2 g3 1 (by kernel_rfl) 3 24 (ls [.bool true, .int .u64 (uo (sl (uo (sl (uo (sl 0 16) (cv .u64 (f 0))) 16) (cv .u64 (f 1))) 16) (cv .u64 (f 2))), .int .u64 (uo (sl (uo (sl (uo (sl 0 16) (cv .u64 (f 4))) 16) (cv .u64 (f 5))) 16) (cv .u64 (f 6)))]) rfl (.int .u64 (uo (sl (uo (sl (uo (sl (uo (sl 0 16) (cv .u64 (f 0))) 16) (cv .u64 (f 1))) 16) (cv .u64 (f 2))) 16) (cv .u64 (f 3)))) (ls [.bool true, .int .u64 (uo (sl (uo (sl (uo (sl (uo (sl 0 16) (cv .u64 (f 0))) 16) (cv .u64 (f 1))) 16) (cv .u64 (f 2))) 16) (cv .u64 (f 3))), .int .u64 (uo (sl (uo (sl (uo (sl 0 16) (cv .u64 (f 4))) 16) (cv .u64 (f 5))) 16) (cv .u64 (f 6)))]) (by kernel_rfl) inz22 (by decide) rfl rfl (put_ls _ 1 _ _ rfl) ?_
  intro u18 M
  replace M : Mem ⟨w, []⟩ [⟨g1, .cells (av 8 (w16 f)) 94⟩, ⟨g2, .cells (av 3 (ls [.bool false, .int .u64 0, .int .u64 0])) 24⟩, ⟨g3, .cells (av 3 (ls [.bool true, .int .u64 (uo (sl (uo (sl (uo (sl (uo (sl 0 16) (cv .u64 (f 0))) 16) (cv .u64 (f 1))) 16) (cv .u64 (f 2))) 16) (cv .u64 (f 3))), .int .u64 (uo (sl (uo (sl (uo (sl 0 16) (cv .u64 (f 4))) 16) (cv .u64 (f 5))) 16) (cv .u64 (f 6)))])) 24⟩] u18 := M
  refine pl_nil ?_
  refine au_then ?_
  refine rg_tail M 10 (by kernel_rfl) (by kernel_rfl) ?_
  simp only [List.take_succ_cons, List.take_zero]
  refine k_val (want_no rfl) (some 18) rfl (.pointer (some ⟨g3, 2, none⟩)) (fun _ => by kernel_rfl) ?_
  refine k_cell M (want_no rfl) (some 19) rfl 22 _ rfl g3 2 (by kernel_rfl) (.int .u64 (uo (sl (uo (sl (uo (sl 0 16) (cv .u64 (f 4))) 16) (cv .u64 (f 5))) 16) (cv .u64 (f 6)))) (fun _ => by kernel_rfl) (fun w M => M.cell 2 rfl (by decide) rfl) ?_
  refine k_val (want_no rfl) (some 20) rfl (.int .u64 (sl (uo (sl (uo (sl (uo (sl 0 16) (cv .u64 (f 4))) 16) (cv .u64 (f 5))) 16) (cv .u64 (f 6))) 16)) (fun _ => by kernel_rfl) ?_
  refine k_val (want_no rfl) (some 21) rfl (.int .i64 3) (fun _ => by kernel_rfl) ?_
  refine k_val (want_no rfl) (some 22) rfl (.int .i64 7) (fun _ => by kernel_rfl) ?_
  refine k_val (want_no rfl) (some 23) rfl (.pointer (some ⟨g1, 7, none⟩)) (fun _ => by kernel_rfl) ?_
  refine k_cell M (want_no rfl) (some 24) rfl 32 _ rfl g1 7 (by kernel_rfl) (.int .u16 (f 7)) (fun _ => by kernel_rfl) (fun w M => M.cell 0 rfl (by decide) rfl) ?_
  refine k_val (want_no rfl) (some 25) rfl (.int .u64 (cv .u64 (f 7))) (fun _ => by kernel_rfl) ?_
  refine k_val (want_no rfl) (some 26) rfl (.int .u64 (uo (sl (uo (sl (uo (sl (uo (sl 0 16) (cv .u64 (f 4))) 16) (cv .u64 (f 5))) 16) (cv .u64 (f 6))) 16) (cv .u64 (f 7)))) (fun _ => by kernel_rfl) ?_
  refine k_val (want_no rfl) (some 27) rfl (.pointer (some ⟨g3, 2, none⟩)) (fun _ => by kernel_rfl) ?_
  refine kl_nil ?_
  intro u19 M
  replace M : Mem ⟨w, []⟩ [⟨g1, .cells (av 8 (w16 f)) 94⟩, ⟨g2, .cells (av 3 (ls [.bool false, .int .u64 0, .int .u64 0])) 24⟩, ⟨g3, .cells (av 3 (ls [.bool true, .int .u64 (uo (sl (uo (sl (uo (sl (uo (sl 0 16) (cv .u64 (f 0))) 16) (cv .u64 (f 1))) 16) (cv .u64 (f 2))) 16) (cv .u64 (f 3))), .int .u64 (uo (sl (uo (sl (uo (sl 0 16) (cv .u64 (f 4))) 16) (cv .u64 (f 5))) 16) (cv .u64 (f 6)))])) 24⟩] u19 := M
  refine pl_put1 M (want_no rfl) rfl 22 _ _ rfl 2 g3 2 (by kernel_rfl) 3 24 (ls [.bool true, .int .u64 (uo (sl (uo (sl (uo (sl (uo (sl 0 16) (cv .u64 (f 0))) 16) (cv .u64 (f 1))) 16) (cv .u64 (f 2))) 16) (cv .u64 (f 3))), .int .u64 (uo (sl (uo (sl (uo (sl 0 16) (cv .u64 (f 4))) 16) (cv .u64 (f 5))) 16) (cv .u64 (f 6)))]) rfl (.int .u64 (uo (sl (uo (sl (uo (sl (uo (sl 0 16) (cv .u64 (f 4))) 16) (cv .u64 (f 5))) 16) (cv .u64 (f 6))) 16) (cv .u64 (f 7)))) (ls [.bool true, .int .u64 (uo (sl (uo (sl (uo (sl (uo (sl 0 16) (cv .u64 (f 0))) 16) (cv .u64 (f 1))) 16) (cv .u64 (f 2))) 16) (cv .u64 (f 3))), .int .u64 (uo (sl (uo (sl (uo (sl (uo (sl 0 16) (cv .u64 (f 4))) 16) (cv .u64 (f 5))) 16) (cv .u64 (f 6))) 16) (cv .u64 (f 7)))]) (by kernel_rfl) inz22 (by decide) rfl rfl (put_ls _ 2 _ _ rfl) ?_
  intro u20 M
  replace M : Mem ⟨w, []⟩ [⟨g1, .cells (av 8 (w16 f)) 94⟩, ⟨g2, .cells (av 3 (ls [.bool false, .int .u64 0, .int .u64 0])) 24⟩, ⟨g3, .cells (av 3 (ls [.bool true, .int .u64 (uo (sl (uo (sl (uo (sl (uo (sl 0 16) (cv .u64 (f 0))) 16) (cv .u64 (f 1))) 16) (cv .u64 (f 2))) 16) (cv .u64 (f 3))), .int .u64 (uo (sl (uo (sl (uo (sl (uo (sl 0 16) (cv .u64 (f 4))) 16) (cv .u64 (f 5))) 16) (cv .u64 (f 6))) 16) (cv .u64 (f 7)))])) 24⟩] u20 := M
  refine pl_nil ?_
  refine au_block ?_
  refine au_then ?_
  refine rg_lit ?_
  refine pl_val (want_no rfl) (some 28) rfl (.int .i64 4) (fun _ => by kernel_rfl) ?_
  refine pl_val (want_no rfl) (some 6) rfl (.int .i64 4) (fun _ => by kernel_rfl) ?_
  refine pl_nil ?_
  refine au_then ?_
  refine rounds_go ?_
  refine wp_seq ?_
  refine rg_lit ?_
  refine pl_val (want_no rfl) (some 7) rfl (.bool false) (fun _ => by kernel_rfl) ?_
  refine pl_nil ?_
  refine au_then ?_
  refine wp_seq ?_
  refine wp_cond_false (by kernel_rfl) ?_
  refine wp_exit ?_
  refine au_then_exit ?_
  refine au_then_exit ?_
  refine au_block_exit ?_
  refine au_then ?_
  refine wp_seq ?_
  refine rg_lit ?_
  refine pl_load M (want_no rfl) (some 29) rfl 24 _ rfl 2 g3 0 (by kernel_rfl) 3 24 (ls [.bool true, .int .u64 (uo (sl (uo (sl (uo (sl (uo (sl 0 16) (cv .u64 (f 0))) 16) (cv .u64 (f 1))) 16) (cv .u64 (f 2))) 16) (cv .u64 (f 3))), .int .u64 (uo (sl (uo (sl (uo (sl (uo (sl 0 16) (cv .u64 (f 4))) 16) (cv .u64 (f 5))) 16) (cv .u64 (f 6))) 16) (cv .u64 (f 7)))]) rfl 3 (ls [.bool true, .int .u64 (uo (sl (uo (sl (uo (sl (uo (sl 0 16) (cv .u64 (f 0))) 16) (cv .u64 (f 1))) 16) (cv .u64 (f 2))) 16) (cv .u64 (f 3))), .int .u64 (uo (sl (uo (sl (uo (sl (uo (sl 0 16) (cv .u64 (f 4))) 16) (cv .u64 (f 5))) 16) (cv .u64 (f 6))) 16) (cv .u64 (f 7)))]) (fun j _ => by rw [Nat.zero_add]) (by decide) _ Tryz.underlying24 rfl inz24 ?_
  refine pl_put M (want_no rfl) rfl 24 _ _ rfl 1 g2 0 (by kernel_rfl) 3 24 (ls [.bool false, .int .u64 0, .int .u64 0]) rfl 3 (ls [.bool true, .int .u64 (uo (sl (uo (sl (uo (sl (uo (sl 0 16) (cv .u64 (f 0))) 16) (cv .u64 (f 1))) 16) (cv .u64 (f 2))) 16) (cv .u64 (f 3))), .int .u64 (uo (sl (uo (sl (uo (sl (uo (sl 0 16) (cv .u64 (f 4))) 16) (cv .u64 (f 5))) 16) (cv .u64 (f 6))) 16) (cv .u64 (f 7)))]) (ls [.bool true, .int .u64 (uo (sl (uo (sl (uo (sl (uo (sl 0 16) (cv .u64 (f 0))) 16) (cv .u64 (f 1))) 16) (cv .u64 (f 2))) 16) (cv .u64 (f 3))), .int .u64 (uo (sl (uo (sl (uo (sl (uo (sl 0 16) (cv .u64 (f 4))) 16) (cv .u64 (f 5))) 16) (cv .u64 (f 6))) 16) (cv .u64 (f 7)))]) (by kernel_rfl) inz24 (by decide) (one_ls _ rfl) (fun j hj => by rw [if_pos (by omega), Nat.sub_zero]) ?_
  intro u21 M
  replace M : Mem ⟨w, []⟩ [⟨g1, .cells (av 8 (w16 f)) 94⟩, ⟨g2, .cells (av 3 (ls [.bool true, .int .u64 (uo (sl (uo (sl (uo (sl (uo (sl 0 16) (cv .u64 (f 0))) 16) (cv .u64 (f 1))) 16) (cv .u64 (f 2))) 16) (cv .u64 (f 3))), .int .u64 (uo (sl (uo (sl (uo (sl (uo (sl 0 16) (cv .u64 (f 4))) 16) (cv .u64 (f 5))) 16) (cv .u64 (f 6))) 16) (cv .u64 (f 7)))])) 24⟩, ⟨g3, .cells (av 3 (ls [.bool true, .int .u64 (uo (sl (uo (sl (uo (sl (uo (sl 0 16) (cv .u64 (f 0))) 16) (cv .u64 (f 1))) 16) (cv .u64 (f 2))) 16) (cv .u64 (f 3))), .int .u64 (uo (sl (uo (sl (uo (sl (uo (sl 0 16) (cv .u64 (f 4))) 16) (cv .u64 (f 5))) 16) (cv .u64 (f 6))) 16) (cv .u64 (f 7)))])) 24⟩] u21 := M
  refine pl_nil ?_
  refine au_then ?_
  refine wp_ret ?_
  have e0 : (adH f) = (uo (sl (uo (sl (uo (sl (uo (sl 0 16) (cv .u64 (f 0))) 16) (cv .u64 (f 1))) 16) (cv .u64 (f 2))) 16) (cv .u64 (f 3))) := rfl
  have e1 : (adL f) = (uo (sl (uo (sl (uo (sl (uo (sl 0 16) (cv .u64 (f 4))) 16) (cv .u64 (f 5))) 16) (cv .u64 (f 6))) 16) (cv .u64 (f 7))) := rfl
  exact bodyPost_ret (v := .agg (av 3 (ls [.bool true, .int .u64 (uo (sl (uo (sl (uo (sl (uo (sl 0 16) (cv .u64 (f 0))) 16) (cv .u64 (f 1))) 16) (cv .u64 (f 2))) 16) (cv .u64 (f 3))), .int .u64 (uo (sl (uo (sl (uo (sl (uo (sl 0 16) (cv .u64 (f 4))) 16) (cv .u64 (f 5))) 16) (cv .u64 (f 6))) 16) (cv .u64 (f 7)))]))) (results_cell_row Tryz.results90 _ _ g2 24 (av 3 (ls [.bool true, .int .u64 (uo (sl (uo (sl (uo (sl (uo (sl 0 16) (cv .u64 (f 0))) 16) (cv .u64 (f 1))) 16) (cv .u64 (f 2))) 16) (cv .u64 (f 3))), .int .u64 (uo (sl (uo (sl (uo (sl (uo (sl 0 16) (cv .u64 (f 4))) 16) (cv .u64 (f 5))) 16) (cv .u64 (f 6))) 16) (cv .u64 (f 7)))])) (0, 0) _ (by kernel_rfl) (M.get 1 rfl) Tryz.underlying24 rfl (by rw [av_size]; exact inz24)) (by kernel_rfl) ⟨by rw [e0, e1], below_grown M.old⟩

/-- Where the row that is going on begins, and where the longest one is. -/
def uN (f : Nat → Int) (j : Nat) (x : Int × Int × Int) : Int × Int × Int := if max (x.2.2 - x.2.1) 1 < (j : Int) + 1 - (if f j = 0 then x.1 else (j : Int) + 1) then ((if f j = 0 then x.1 else (j : Int) + 1), (if f j = 0 then x.1 else (j : Int) + 1), (j : Int) + 1) else ((if f j = 0 then x.1 else (j : Int) + 1), x.2.1, x.2.2)
def uS (f : Nat → Int) : Nat → Int × Int × Int
  | 0 => (0, 0, 0)
  | j + 1 => uN f j (uS f j)
theorem uS_nn (f : Nat → Int) (j : Nat) : 0 ≤ (uS f j).1 ∧ (uS f j).1 ≤ j ∧ 0 ≤ (uS f j).2.1 ∧ (uS f j).2.1 ≤ (uS f j).2.2 ∧ (uS f j).2.2 ≤ j := by
  induction j with
  | zero =>
    show (0 : Int) ≤ 0 ∧ (0 : Int) ≤ ((0 : Nat) : Int) ∧ (0 : Int) ≤ 0 ∧ (0 : Int) ≤ 0 ∧ (0 : Int) ≤ ((0 : Nat) : Int)
    decide
  | succ j ih =>
    show 0 ≤ (uN f j (uS f j)).1 ∧ (uN f j (uS f j)).1 ≤ ((j + 1 : Nat) : Int) ∧ 0 ≤ (uN f j (uS f j)).2.1 ∧ (uN f j (uS f j)).2.1 ≤ (uN f j (uS f j)).2.2 ∧ (uN f j (uS f j)).2.2 ≤ ((j + 1 : Nat) : Int)
    unfold uN
    by_cases h : f j = 0
    · rw [if_pos h]
      split <;> simp only <;> omega
    · rw [if_neg h]
      split <;> simp only <;> omega
set_option maxRecDepth 100000 in
set_option maxHeartbeats 4000000 in
set_option linter.unusedSimpArgs false in
theorem c_untold (f : Nat → Int) (w : World) (hL : Laid w)  :
    Calls Tryz.prog 74 #[.agg (av 8 (w16 f))] w fun r w' => r = .returned (.tuple #[.int .i64 (uS f 8).2.1, .int .i64 (uS f 8).2.2]) ∧ Below w.heap.size w w' := by
  go_enter Tryz.func74, Tryz.ntmps74
  have M := Mem.start hL
  refine wp_seq ?_
  refine rg_lit ?_
  refine pl_new M (want_no rfl) (some 1) rfl (.cells (av 8 (w16 f)) 94) (fun _ => by kernel_rfl) ?_
  intro g1 u1 M
  replace M : Mem ⟨w, []⟩ [⟨g1, .cells (av 8 (w16 f)) 94⟩] u1 := M
  refine pl_val (want_no rfl) (some 2) rfl (.int .i64 0) (fun _ => by kernel_rfl) ?_
  refine pl_val (want_no rfl) (some 3) rfl (.int .i64 0) (fun _ => by kernel_rfl) ?_
  refine pl_nil ?_
  refine au_then ?_
  refine wp_seq ?_
  refine rg_lit ?_
  refine pl_val (want_no rfl) (some 4) rfl (.int .i64 0) (fun _ => by kernel_rfl) ?_
  refine pl_nil ?_
  refine au_then ?_
  refine wp_seq ?_
  refine wp_seq ?_
  refine rg_lit ?_
  refine pl_load M (want_no rfl) (some 7) rfl 94 _ rfl 0 g1 0 (by kernel_rfl) 8 94 (w16 f) rfl 8 (w16 f) (fun j _ => by rw [Nat.zero_add]) (by decide) _ Tryz.underlying94 rfl inz94 ?_
  refine pl_val (want_no rfl) (some 8) rfl (.int .i64 0) (fun _ => by kernel_rfl) ?_
  refine pl_nil ?_
  refine au_then ?_
  refine wp_block ?_
  refine au_loop (fun j a w' => ∃ v1 : Nat → Value, a = ⟨#[.agg (av 8 (w16 f)), .pointer (some ⟨g1, 0, none⟩), .int .i64 (uS f j).2.1, .int .i64 (uS f j).2.2, .int .i64 (uS f j).1, v1 5, v1 6, .agg (av 8 (w16 f)), .int .i64 (j : Int), v1 9, v1 10, v1 11, v1 12, v1 13, v1 14, v1 15, v1 16, v1 17, v1 18, v1 19, v1 20, v1 21, v1 22, v1 23, v1 24, v1 25, v1 26, v1 27, v1 28, undef, undef], []⟩ ∧ Mem ⟨w, []⟩ [⟨g1, .cells (av 8 (w16 f)) 94⟩] w') 8 ⟨fun k_ => ([undef, undef, undef, undef, undef, undef, undef, undef, undef, undef, undef, undef, undef, undef, undef, undef, undef, undef, undef, undef, undef, undef, undef, undef] : List Value).getD (k_ - 5) undef, by kernel_rfl, M⟩ ?_ ?_
  · intro j a u0 hj hI
    obtain ⟨v1, rfl, M⟩ := hI
    have hu := uS_nn f j
    refine wp_seq ?_
    refine rg_lit ?_
    refine pl_val (want_no rfl) (some 9) rfl (.bool true) (fun w => Eq.trans (b := .ok (.value (.bool (decide ((j : Int) < 8)))) w) (by kernel_rfl) (by rw [decide_eq_true (by omega)])) ?_
    refine pl_nil ?_
    refine au_then ?_
    refine wp_seq ?_
    refine wp_cond_true (by kernel_rfl) ?_
    refine wp_skip ?_
    refine au_then ?_
    refine wp_seq ?_
    refine wp_block ?_
    refine wp_seq ?_
    refine rg_lit ?_
    refine pl_val (want_no rfl) (some 10) rfl (.int .i64 (j : Int)) (fun _ => by kernel_rfl) ?_
    refine pl_val (want_no rfl) (some 11) rfl (.int .u16 (f j)) (run_ixA 94 8 32 Tryz.underlying94 inz32 (fun _ => by kernel_rfl) _ _ rfl (w16 f) (by kernel_rfl) .i64 j (by kernel_rfl) (by omega) rfl) ?_
    refine pl_val (want_no rfl) (some 5) rfl (.int .i64 (j : Int)) (fun _ => by kernel_rfl) ?_
    refine pl_val (want_no rfl) (some 6) rfl (.int .u16 (f j)) (fun _ => by kernel_rfl) ?_
    refine pl_nil ?_
    refine au_then ?_
    refine wp_seq ?_
    refine wp_seq ?_
    refine rg_lit ?_
    refine pl_val (want_no rfl) (some 12) rfl (.int .u16 (f j)) (fun _ => by kernel_rfl) ?_
    by_cases c0 : (f j) = 0
    · skip
      refine pl_val (want_no rfl) (some 13) rfl (.bool false) (fun w => Eq.trans (b := .ok (.value (.bool (!(decide ((f j) = 0))))) w) (by kernel_rfl) (by rw [decide_eq_true (c0)]; rfl)) ?_
      refine pl_nil ?_
      refine au_then ?_
      refine wp_cond_false (by kernel_rfl) ?_
      refine wp_skip ?_
      refine au_then ?_
      refine wp_seq ?_
      refine rg_lit ?_
      refine pl_val (want_no rfl) (some 16) rfl (.int .i64 (j : Int)) (fun _ => by kernel_rfl) ?_
      refine pl_val (want_no rfl) (some 17) rfl (.int .i64 ((j : Int) + 1)) (fun w => Eq.trans (b := .ok (.value (.int .i64 (IntKind.wrap .i64 ((j : Int) + 1)))) w) (by kernel_rfl) (by rw [wrap64 (by omega) (by omega)])) ?_
      refine pl_val (want_no rfl) (some 18) rfl (.int .i64 (uS f j).1) (fun _ => by kernel_rfl) ?_
      refine pl_val (want_no rfl) (some 19) rfl (.int .i64 (((j : Int) + 1) - ((uS f j).1))) (fun w => Eq.trans (b := .ok (.value (.int .i64 (IntKind.wrap .i64 (((j : Int) + 1) - ((uS f j).1))))) w) (by kernel_rfl) (by rw [wrap64 (by omega) (by omega)])) ?_
      refine pl_val (want_no rfl) (some 20) rfl (.int .i64 (uS f j).2.2) (fun _ => by kernel_rfl) ?_
      refine pl_val (want_no rfl) (some 21) rfl (.int .i64 (uS f j).2.1) (fun _ => by kernel_rfl) ?_
      refine pl_val (want_no rfl) (some 22) rfl (.int .i64 (((uS f j).2.2) - ((uS f j).2.1))) (fun w => Eq.trans (b := .ok (.value (.int .i64 (IntKind.wrap .i64 (((uS f j).2.2) - ((uS f j).2.1))))) w) (by kernel_rfl) (by rw [wrap64 (by omega) (by omega)])) ?_
      refine pl_val (want_no rfl) (some 23) rfl (.int .i64 (max (((uS f j).2.2) - ((uS f j).2.1)) 1)) (fun w => Eq.trans (b := .ok (.value (.int .i64 (if (1 : Int) > (((uS f j).2.2) - ((uS f j).2.1)) then 1 else (((uS f j).2.2) - ((uS f j).2.1))))) w) (by kernel_rfl) (by rw [if_max])) ?_
      by_cases c1 : (max (((uS f j).2.2) - ((uS f j).2.1)) 1) < (((j : Int) + 1) - ((uS f j).1))
      · skip
        refine pl_val (want_no rfl) (some 24) rfl (.bool true) (fun w => Eq.trans (b := .ok (.value (.bool (decide ((max (((uS f j).2.2) - ((uS f j).2.1)) 1) < (((j : Int) + 1) - ((uS f j).1)))))) w) (by kernel_rfl) (by rw [decide_eq_true (c1)])) ?_
        refine pl_nil ?_
        refine au_then ?_
        refine wp_cond_true (by kernel_rfl) ?_
        refine rg_lit ?_
        refine pl_val (want_no rfl) (some 25) rfl (.int .i64 (uS f j).1) (fun _ => by kernel_rfl) ?_
        refine pl_val (want_no rfl) (some 26) rfl (.int .i64 (j : Int)) (fun _ => by kernel_rfl) ?_
        refine pl_val (want_no rfl) (some 27) rfl (.int .i64 ((j : Int) + 1)) (fun w => Eq.trans (b := .ok (.value (.int .i64 (IntKind.wrap .i64 ((j : Int) + 1)))) w) (by kernel_rfl) (by rw [wrap64 (by omega) (by omega)])) ?_
        refine pl_val (want_no rfl) (some 2) rfl (.int .i64 (uS f j).1) (fun _ => by kernel_rfl) ?_
        refine pl_val (want_no rfl) (some 3) rfl (.int .i64 ((j : Int) + 1)) (fun _ => by kernel_rfl) ?_
        refine pl_nil ?_
        refine au_block ?_
        refine au_then ?_
        refine rg_lit ?_
        refine pl_val (want_no rfl) (some 28) rfl (.int .i64 ((j + 1 : Nat) : Int)) (fun w => Eq.trans (b := .ok (.value (.int .i64 (IntKind.wrap .i64 ((j : Int) + 1)))) w) (by kernel_rfl) (by rw [wrap64 (by omega) (by omega)]; congr 3)) ?_
        refine pl_val (want_no rfl) (some 8) rfl (.int .i64 ((j + 1 : Nat) : Int)) (fun _ => by kernel_rfl) ?_
        refine pl_nil ?_
        refine au_then ?_
        have hU : uS f (j + 1) = ((uS f j).1, (uS f j).1, ((j : Int) + 1)) := by show uN f j (uS f j) = _; unfold uN; rw [if_pos c0, if_pos c1]
        exact ⟨fun k_ => ([.int .i64 (j : Int), .int .u16 (f j), undef, undef, .bool true, .int .i64 (j : Int), .int .u16 (f j), .int .u16 (f j), .bool false, v1 14, v1 15, .int .i64 (j : Int), .int .i64 ((j : Int) + 1), .int .i64 (uS f j).1, .int .i64 (((j : Int) + 1) - ((uS f j).1)), .int .i64 (uS f j).2.2, .int .i64 (uS f j).2.1, .int .i64 (((uS f j).2.2) - ((uS f j).2.1)), .int .i64 (max (((uS f j).2.2) - ((uS f j).2.1)) 1), .bool true, .int .i64 (uS f j).1, .int .i64 (j : Int), .int .i64 ((j : Int) + 1), .int .i64 ((j + 1 : Nat) : Int)] : List Value).getD (k_ - 5) undef, by rw [hU]; kernel_rfl, M⟩
      · skip
        refine pl_val (want_no rfl) (some 24) rfl (.bool false) (fun w => Eq.trans (b := .ok (.value (.bool (decide ((max (((uS f j).2.2) - ((uS f j).2.1)) 1) < (((j : Int) + 1) - ((uS f j).1)))))) w) (by kernel_rfl) (by rw [decide_eq_false (c1)])) ?_
        refine pl_nil ?_
        refine au_then ?_
        refine wp_cond_false (by kernel_rfl) ?_
        refine wp_skip ?_
        refine au_block ?_
        refine au_then ?_
        refine rg_lit ?_
        refine pl_val (want_no rfl) (some 28) rfl (.int .i64 ((j + 1 : Nat) : Int)) (fun w => Eq.trans (b := .ok (.value (.int .i64 (IntKind.wrap .i64 ((j : Int) + 1)))) w) (by kernel_rfl) (by rw [wrap64 (by omega) (by omega)]; congr 3)) ?_
        refine pl_val (want_no rfl) (some 8) rfl (.int .i64 ((j + 1 : Nat) : Int)) (fun _ => by kernel_rfl) ?_
        refine pl_nil ?_
        refine au_then ?_
        have hU : uS f (j + 1) = ((uS f j).1, (uS f j).2.1, (uS f j).2.2) := by show uN f j (uS f j) = _; unfold uN; rw [if_pos c0, if_neg c1]
        exact ⟨fun k_ => ([.int .i64 (j : Int), .int .u16 (f j), undef, undef, .bool true, .int .i64 (j : Int), .int .u16 (f j), .int .u16 (f j), .bool false, v1 14, v1 15, .int .i64 (j : Int), .int .i64 ((j : Int) + 1), .int .i64 (uS f j).1, .int .i64 (((j : Int) + 1) - ((uS f j).1)), .int .i64 (uS f j).2.2, .int .i64 (uS f j).2.1, .int .i64 (((uS f j).2.2) - ((uS f j).2.1)), .int .i64 (max (((uS f j).2.2) - ((uS f j).2.1)) 1), .bool false, v1 25, v1 26, v1 27, .int .i64 ((j + 1 : Nat) : Int)] : List Value).getD (k_ - 5) undef, by rw [hU]; kernel_rfl, M⟩
    · skip
      refine pl_val (want_no rfl) (some 13) rfl (.bool true) (fun w => Eq.trans (b := .ok (.value (.bool (!(decide ((f j) = 0))))) w) (by kernel_rfl) (by rw [decide_eq_false (c0)]; rfl)) ?_
      refine pl_nil ?_
      refine au_then ?_
      refine wp_cond_true (by kernel_rfl) ?_
      refine rg_lit ?_
      refine pl_val (want_no rfl) (some 14) rfl (.int .i64 (j : Int)) (fun _ => by kernel_rfl) ?_
      refine pl_val (want_no rfl) (some 15) rfl (.int .i64 ((j : Int) + 1)) (fun w => Eq.trans (b := .ok (.value (.int .i64 (IntKind.wrap .i64 ((j : Int) + 1)))) w) (by kernel_rfl) (by rw [wrap64 (by omega) (by omega)])) ?_
      refine pl_val (want_no rfl) (some 4) rfl (.int .i64 ((j : Int) + 1)) (fun _ => by kernel_rfl) ?_
      refine pl_nil ?_
      refine au_then ?_
      refine wp_seq ?_
      refine rg_lit ?_
      refine pl_val (want_no rfl) (some 16) rfl (.int .i64 (j : Int)) (fun _ => by kernel_rfl) ?_
      refine pl_val (want_no rfl) (some 17) rfl (.int .i64 ((j : Int) + 1)) (fun w => Eq.trans (b := .ok (.value (.int .i64 (IntKind.wrap .i64 ((j : Int) + 1)))) w) (by kernel_rfl) (by rw [wrap64 (by omega) (by omega)])) ?_
      refine pl_val (want_no rfl) (some 18) rfl (.int .i64 ((j : Int) + 1)) (fun _ => by kernel_rfl) ?_
      refine pl_val (want_no rfl) (some 19) rfl (.int .i64 (((j : Int) + 1) - ((j : Int) + 1))) (fun w => Eq.trans (b := .ok (.value (.int .i64 (IntKind.wrap .i64 (((j : Int) + 1) - ((j : Int) + 1))))) w) (by kernel_rfl) (by rw [wrap64 (by omega) (by omega)])) ?_
      refine pl_val (want_no rfl) (some 20) rfl (.int .i64 (uS f j).2.2) (fun _ => by kernel_rfl) ?_
      refine pl_val (want_no rfl) (some 21) rfl (.int .i64 (uS f j).2.1) (fun _ => by kernel_rfl) ?_
      refine pl_val (want_no rfl) (some 22) rfl (.int .i64 (((uS f j).2.2) - ((uS f j).2.1))) (fun w => Eq.trans (b := .ok (.value (.int .i64 (IntKind.wrap .i64 (((uS f j).2.2) - ((uS f j).2.1))))) w) (by kernel_rfl) (by rw [wrap64 (by omega) (by omega)])) ?_
      refine pl_val (want_no rfl) (some 23) rfl (.int .i64 (max (((uS f j).2.2) - ((uS f j).2.1)) 1)) (fun w => Eq.trans (b := .ok (.value (.int .i64 (if (1 : Int) > (((uS f j).2.2) - ((uS f j).2.1)) then 1 else (((uS f j).2.2) - ((uS f j).2.1))))) w) (by kernel_rfl) (by rw [if_max])) ?_
      by_cases c1 : (max (((uS f j).2.2) - ((uS f j).2.1)) 1) < (((j : Int) + 1) - ((j : Int) + 1))
      · skip
        refine pl_val (want_no rfl) (some 24) rfl (.bool true) (fun w => Eq.trans (b := .ok (.value (.bool (decide ((max (((uS f j).2.2) - ((uS f j).2.1)) 1) < (((j : Int) + 1) - ((j : Int) + 1)))))) w) (by kernel_rfl) (by rw [decide_eq_true (c1)])) ?_
        refine pl_nil ?_
        refine au_then ?_
        refine wp_cond_true (by kernel_rfl) ?_
        refine rg_lit ?_
        refine pl_val (want_no rfl) (some 25) rfl (.int .i64 ((j : Int) + 1)) (fun _ => by kernel_rfl) ?_
        refine pl_val (want_no rfl) (some 26) rfl (.int .i64 (j : Int)) (fun _ => by kernel_rfl) ?_
        refine pl_val (want_no rfl) (some 27) rfl (.int .i64 ((j : Int) + 1)) (fun w => Eq.trans (b := .ok (.value (.int .i64 (IntKind.wrap .i64 ((j : Int) + 1)))) w) (by kernel_rfl) (by rw [wrap64 (by omega) (by omega)])) ?_
        refine pl_val (want_no rfl) (some 2) rfl (.int .i64 ((j : Int) + 1)) (fun _ => by kernel_rfl) ?_
        refine pl_val (want_no rfl) (some 3) rfl (.int .i64 ((j : Int) + 1)) (fun _ => by kernel_rfl) ?_
        refine pl_nil ?_
        refine au_block ?_
        refine au_then ?_
        refine rg_lit ?_
        refine pl_val (want_no rfl) (some 28) rfl (.int .i64 ((j + 1 : Nat) : Int)) (fun w => Eq.trans (b := .ok (.value (.int .i64 (IntKind.wrap .i64 ((j : Int) + 1)))) w) (by kernel_rfl) (by rw [wrap64 (by omega) (by omega)]; congr 3)) ?_
        refine pl_val (want_no rfl) (some 8) rfl (.int .i64 ((j + 1 : Nat) : Int)) (fun _ => by kernel_rfl) ?_
        refine pl_nil ?_
        refine au_then ?_
        have hU : uS f (j + 1) = (((j : Int) + 1), ((j : Int) + 1), ((j : Int) + 1)) := by show uN f j (uS f j) = _; unfold uN; rw [if_neg c0, if_pos c1]
        exact ⟨fun k_ => ([.int .i64 (j : Int), .int .u16 (f j), undef, undef, .bool true, .int .i64 (j : Int), .int .u16 (f j), .int .u16 (f j), .bool true, .int .i64 (j : Int), .int .i64 ((j : Int) + 1), .int .i64 (j : Int), .int .i64 ((j : Int) + 1), .int .i64 ((j : Int) + 1), .int .i64 (((j : Int) + 1) - ((j : Int) + 1)), .int .i64 (uS f j).2.2, .int .i64 (uS f j).2.1, .int .i64 (((uS f j).2.2) - ((uS f j).2.1)), .int .i64 (max (((uS f j).2.2) - ((uS f j).2.1)) 1), .bool true, .int .i64 ((j : Int) + 1), .int .i64 (j : Int), .int .i64 ((j : Int) + 1), .int .i64 ((j + 1 : Nat) : Int)] : List Value).getD (k_ - 5) undef, by rw [hU]; kernel_rfl, M⟩
      · skip
        refine pl_val (want_no rfl) (some 24) rfl (.bool false) (fun w => Eq.trans (b := .ok (.value (.bool (decide ((max (((uS f j).2.2) - ((uS f j).2.1)) 1) < (((j : Int) + 1) - ((j : Int) + 1)))))) w) (by kernel_rfl) (by rw [decide_eq_false (c1)])) ?_
        refine pl_nil ?_
        refine au_then ?_
        refine wp_cond_false (by kernel_rfl) ?_
        refine wp_skip ?_
        refine au_block ?_
        refine au_then ?_
        refine rg_lit ?_
        refine pl_val (want_no rfl) (some 28) rfl (.int .i64 ((j + 1 : Nat) : Int)) (fun w => Eq.trans (b := .ok (.value (.int .i64 (IntKind.wrap .i64 ((j : Int) + 1)))) w) (by kernel_rfl) (by rw [wrap64 (by omega) (by omega)]; congr 3)) ?_
        refine pl_val (want_no rfl) (some 8) rfl (.int .i64 ((j + 1 : Nat) : Int)) (fun _ => by kernel_rfl) ?_
        refine pl_nil ?_
        refine au_then ?_
        have hU : uS f (j + 1) = (((j : Int) + 1), (uS f j).2.1, (uS f j).2.2) := by show uN f j (uS f j) = _; unfold uN; rw [if_neg c0, if_neg c1]
        exact ⟨fun k_ => ([.int .i64 (j : Int), .int .u16 (f j), undef, undef, .bool true, .int .i64 (j : Int), .int .u16 (f j), .int .u16 (f j), .bool true, .int .i64 (j : Int), .int .i64 ((j : Int) + 1), .int .i64 (j : Int), .int .i64 ((j : Int) + 1), .int .i64 ((j : Int) + 1), .int .i64 (((j : Int) + 1) - ((j : Int) + 1)), .int .i64 (uS f j).2.2, .int .i64 (uS f j).2.1, .int .i64 (((uS f j).2.2) - ((uS f j).2.1)), .int .i64 (max (((uS f j).2.2) - ((uS f j).2.1)) 1), .bool false, v1 25, v1 26, v1 27, .int .i64 ((j + 1 : Nat) : Int)] : List Value).getD (k_ - 5) undef, by rw [hU]; kernel_rfl, M⟩
  · intro a u0 hI
    obtain ⟨v1, rfl, M⟩ := hI
    refine wp_seq ?_
    refine rg_lit ?_
    refine pl_val (want_no rfl) (some 9) rfl (.bool false) (fun w => Eq.trans (b := .ok (.value (.bool (decide ((8 : Int) < 8)))) w) (by kernel_rfl) (by rw [decide_eq_false (by omega)])) ?_
    refine pl_nil ?_
    refine au_then ?_
    refine wp_seq ?_
    refine wp_cond_false (by kernel_rfl) ?_
    refine wp_exit ?_
    refine au_then_exit ?_
    refine au_then_exit ?_
    refine au_block_exit ?_
    refine au_then ?_
    refine wp_seq ?_
    refine rg_lit ?_
    refine pl_val (want_no rfl) (some 29) rfl (.int .i64 (uS f 8).2.1) (fun _ => by kernel_rfl) ?_
    refine pl_val (want_no rfl) (some 30) rfl (.int .i64 (uS f 8).2.2) (fun _ => by kernel_rfl) ?_
    refine pl_val (want_no rfl) (some 2) rfl (.int .i64 (uS f 8).2.1) (fun _ => by kernel_rfl) ?_
    refine pl_val (want_no rfl) (some 3) rfl (.int .i64 (uS f 8).2.2) (fun _ => by kernel_rfl) ?_
    refine pl_nil ?_
    refine au_then ?_
    refine wp_ret ?_
    exact bodyPost_ret (v := .tuple #[.int .i64 (uS f 8).2.1, .int .i64 (uS f 8).2.2]) (results_tmp2 Tryz.results74 _ _ _ _ (by kernel_rfl) (by kernel_rfl)) (by kernel_rfl) ⟨rfl, below_grown M.old⟩

def ws16 (f : Nat → Int) (n : Nat) : List ByteArray := (List.range n).map fun i => hxT (f i).toNat
def ws10 (f : Nat → Int) (n : Nat) : List ByteArray := (List.range n).map fun i => dcT (((f i).toNat : Nat) : Int)
theorem ws16_len (f : Nat → Int) (n : Nat) : (ws16 f n).length = n := by simp [ws16]
theorem ws10_len (f : Nat → Int) (n : Nat) : (ws10 f n).length = n := by simp [ws10]
theorem vS_len (l : List ByteArray) : (vS l).length = l.length := by simp [vS]
theorem ws16_step (f : Nat → Int) (j : Nat) : vS (ws16 f (j + 1)) = vS (ws16 f j) ++ [.string (hxT (f j).toNat)] := by simp [vS, ws16, List.range_succ]
theorem ws10_step (f : Nat → Int) (j : Nat) : vS (ws10 f (j + 1)) = vS (ws10 f j) ++ [.string (dcT (((f j).toNat : Nat) : Int))] := by simp [vS, ws10, List.range_succ]
theorem join_le (m : Nat) (sep : List UInt8) (xs : List (List UInt8)) (h : ∀ x ∈ xs, x.length ≤ m) : (Lib.join xs sep).length ≤ xs.length * (m + sep.length) := by
  cases xs with
  | nil => simp [Lib.join]
  | cons x r =>
    rw [Lib.join_length]
    have e : ∀ l : List (List UInt8), (∀ y ∈ l, y.length ≤ m) → Lib.lens l ≤ l.length * m := fun l hl => by
      induction l with
      | nil => simp [Lib.lens]
      | cons a l ih =>
        have h1 := hl a (List.mem_cons_self ..)
        have h2 := ih fun y hy => hl y (List.mem_cons_of_mem _ hy)
        simp only [Lib.lens, List.map_cons, List.sum_cons, List.length_cons] at h2 ⊢
        rw [Nat.add_mul, Nat.one_mul]
        omega
    have h3 := e (x :: r) h
    have h4 : (r.length + 1) * (m + sep.length) = (r.length + 1) * m + (r.length * sep.length + sep.length) := by rw [Nat.mul_add, Nat.add_mul r.length 1 sep.length, Nat.one_mul]
    have h5 := Nat.mul_comm sep.length r.length
    rw [List.length_cons] at h3 ⊢
    omega
theorem c_JoinN (g cap n : Nat) (Z : Obj) (xs : List ByteArray) (sep : ByteArray) (hx : xs.length = n) (hN : n ≤ 1000) (hlen : (Lib.join (xs.map (·.data.toList)) sep.data.toList).length ≤ 100000) (w : World) (hg : w.heap[g]? = some Z) (hs : SB Z cap (vS xs)) :
    Calls Tryz.prog 94 #[.slice (some ⟨g, 0, none⟩) n cap, .string sep] w fun r w' => r = .returned (.string (jn xs sep)) ∧ Below w.heap.size w w' := by
  subst hx
  exact c_Join g cap Z xs sep hN hlen w hg hs
theorem hxT_size (n : Nat) : (hxT n).size ≤ 4 := by
  unfold hxT
  split
  · rw [bs_size]; exact Nat.le_of_ble_eq_true rfl
  · split
    · rw [bs_size]; exact Nat.le_of_ble_eq_true rfl
    · split <;> (rw [bs_size]; exact Nat.le_of_ble_eq_true rfl)
theorem dcT_size (x : Int) : (dcT x).size ≤ 3 := by
  unfold dcT
  split
  · rw [bs_size]; exact Nat.le_of_ble_eq_true rfl
  · split <;> (rw [bs_size]; exact Nat.le_of_ble_eq_true rfl)
theorem ws16_join (f : Nat → Int) (n : Nat) (hn : n ≤ 8) (sep : ByteArray) (hs : sep.size ≤ 4) : (Lib.join ((ws16 f n).map (·.data.toList)) sep.data.toList).length ≤ 100 := by
  have := join_le 4 sep.data.toList ((ws16 f n).map (·.data.toList)) (fun x hx => by
    obtain ⟨y, hy, rfl⟩ := List.mem_map.1 hx
    obtain ⟨i, _, rfl⟩ := List.mem_map.1 hy
    exact hxT_size _)
  rw [List.length_map, ws16_len] at this
  have e : sep.data.toList.length = sep.size := rfl
  rw [e] at this
  have h2 : n * (4 + sep.size) ≤ 8 * 8 := Nat.mul_le_mul hn (by omega)
  omega
theorem ws10_join (f : Nat → Int) (n : Nat) (hn : n ≤ 8) (sep : ByteArray) (hs : sep.size ≤ 4) : (Lib.join ((ws10 f n).map (·.data.toList)) sep.data.toList).length ≤ 100 := by
  have := join_le 4 sep.data.toList ((ws10 f n).map (·.data.toList)) (fun x hx => by
    obtain ⟨y, hy, rfl⟩ := List.mem_map.1 hx
    obtain ⟨i, _, rfl⟩ := List.mem_map.1 hy
    have := dcT_size (((f i).toNat : Nat) : Int)
    show (dcT _).size ≤ 4
    omega)
  rw [List.length_map, ws10_len] at this
  have e : sep.data.toList.length = sep.size := rfl
  rw [e] at this
  have h2 : n * (4 + sep.size) ≤ 8 * 8 := Nat.mul_le_mul hn (by omega)
  omega
set_option maxRecDepth 100000 in
set_option maxHeartbeats 4000000 in
set_option linter.unusedSimpArgs false in
theorem c_joined16 (g o n cap : Nat) (f : Nat → Int) (sep : ByteArray) (hn : n ≤ 8) (hs : sep.size ≤ 4) (hf : ∀ i, 0 ≤ f i ∧ f i < 65536) (w : World) (hL : Laid w) (hc : ∀ i, i < n → w.cell? ⟨g, o + i, none⟩ = some (.int .u16 (f i))) :
    Calls Tryz.prog 75 #[.slice (some ⟨g, o, none⟩) n cap, .string sep, .int .i64 16] w fun r w' => r = .returned (.string (jn (ws16 f n) sep)) ∧ Below w.heap.size w w' := by
  go_enter Tryz.func75, Tryz.ntmps75
  have M := Mem.start hL
  refine wp_seq ?_
  refine rg_lit ?_
  refine pl_val (want_no rfl) (some 6) rfl (.string ⟨#[]⟩) (fun _ => by kernel_rfl) ?_
  refine pl_nil ?_
  refine au_then ?_
  refine wp_seq ?_
  refine rg_lit ?_
  refine pl_val (want_no rfl) (some 10) rfl (.slice (some ⟨g, o, none⟩) n cap) (fun _ => by kernel_rfl) ?_
  refine pl_val (want_no rfl) (some 11) rfl (.int .i64 (n : Int)) (fun _ => by kernel_rfl) ?_
  refine pl_makeI M (want_no rfl) (some 12) rfl 72 9 (.string ⟨#[]⟩) Tryz.underlying72 info9 _ _ rfl .i64 .i64 (by kernel_rfl) n (by kernel_rfl) (by omega) ?_
  intro g8 Z8 u1 hZ8 M
  replace M : Mem ⟨w, []⟩ [⟨g8, Z8⟩] u1 := M
  refine pl_val (want_no rfl) (some 7) rfl (.slice (some ⟨g8, 0, none⟩) 0 n) (fun _ => by kernel_rfl) ?_
  refine pl_nil ?_
  refine au_then ?_
  refine wp_seq ?_
  refine wp_seq ?_
  refine rg_lit ?_
  refine pl_val (want_no rfl) (some 13) rfl (.slice (some ⟨g, o, none⟩) n cap) (fun _ => by kernel_rfl) ?_
  refine pl_val (want_no rfl) (some 14) rfl (.int .i64 (n : Int)) (fun _ => by kernel_rfl) ?_
  refine pl_val (want_no rfl) (some 15) rfl (.int .i64 0) (fun _ => by kernel_rfl) ?_
  refine pl_nil ?_
  refine au_then ?_
  refine wp_block ?_
  refine au_loop (fun j a w' => ∃ (v1 : Nat → Value) (g9 cap9 : Nat) (Z9 : Obj), a = ⟨#[.slice (some ⟨g, o, none⟩) n cap, .string sep, .int .i64 16, undef, undef, undef, .string ⟨#[]⟩, .slice (some ⟨g9, 0, none⟩) j cap9, undef, v1 9, .slice (some ⟨g, o, none⟩) n cap, .int .i64 (n : Int), .slice (some ⟨g8, 0, none⟩) 0 n, .slice (some ⟨g, o, none⟩) n cap, .int .i64 (n : Int), .int .i64 (j : Int), v1 16, v1 17, v1 18, v1 19, v1 20, v1 21, v1 22, v1 23, v1 24, v1 25, v1 26, undef, undef, undef], []⟩ ∧ SB Z9 cap9 (vS (ws16 f j)) ∧ Mem ⟨w, []⟩ [⟨g9, Z9⟩] w') n ⟨fun k_ => ([undef, undef, undef, undef, undef, undef, undef, undef, undef, undef, undef, undef, undef, undef, undef, undef, undef, undef] : List Value).getD (k_ - 9) undef, g8, n, Z8, by kernel_rfl, hZ8, M⟩ ?_ ?_
  · intro j a u0 hj hI
    obtain ⟨v1, g9, cap9, Z9, rfl, hZ9, M⟩ := hI
    refine wp_seq ?_
    refine rg_lit ?_
    refine pl_val (want_no rfl) (some 16) rfl (.bool true) (fun w => Eq.trans (b := .ok (.value (.bool (decide ((j : Int) < (n : Int))))) w) (by kernel_rfl) (by rw [decide_eq_true (by omega)])) ?_
    refine pl_nil ?_
    refine au_then ?_
    refine wp_seq ?_
    refine wp_cond_true (by kernel_rfl) ?_
    refine wp_skip ?_
    refine au_then ?_
    refine wp_seq ?_
    refine wp_block ?_
    refine wp_seq ?_
    refine rg_lit ?_
    refine pl_val (want_no rfl) (some 17) rfl (.pointer (some ⟨g, (o + j), none⟩)) (run_ixL 99 32 Tryz.underlying99 inz32 _ _ rfl g o n cap (by kernel_rfl) .i64 j (by kernel_rfl) (by omega)) ?_
    refine pl_cell M (want_no rfl) (some 18) rfl 32 _ rfl g (o + j) (by kernel_rfl) (.int .u16 (f j)) (fun _ => by kernel_rfl) (fun w M => M.oldc (hc j (by omega)) (by simp)) ?_
    refine pl_val (want_no rfl) (some 9) rfl (.int .u16 (f j)) (fun _ => by kernel_rfl) ?_
    refine pl_nil ?_
    refine au_then ?_
    refine rg_lit ?_
    refine pl_val (want_no rfl) (some 19) rfl (.slice (some ⟨g9, 0, none⟩) j cap9) (fun _ => by kernel_rfl) ?_
    refine pl_val (want_no rfl) (some 20) rfl (.int .u16 (f j)) (fun _ => by kernel_rfl) ?_
    refine pl_val (want_no rfl) (some 21) rfl (.int .u64 (((f j).toNat : Nat) : Int)) (fun w => Eq.trans (b := .ok (.value (.int .u64 (cv .u64 (f j)))) w) (by kernel_rfl) (by have := hf j; rw [cv_u64]; congr 3; omega)) ?_
    refine pl_val (want_no rfl) (some 22) rfl (.int .i64 16) (fun _ => by kernel_rfl) ?_
    refine pl_call M (want_no rfl) (some 23) rfl 53 #[.int .u64 (((f j).toNat : Nat) : Int), .int .i64 16] (.string (hxT (f j).toNat)) (fun _ => by kernel_rfl) (fun w M => c_fmt16 (f j).toNat (by have := hf j; omega) w M.laid) ?_
    intro u2 M
    refine pl_mk M (want_no rfl) (some 24) rfl (fun g1 => .slice (some ⟨g1, 0, none⟩) 1 1) (.cells (av 1 (fun _ => .string (hxT (f j).toNat))) 9) (fun _ => by kernel_rfl) ?_
    intro g1 u3 M
    replace M : Mem ⟨w, []⟩ [⟨g9, Z9⟩, ⟨g1, .cells (av 1 (fun _ => .string (hxT (f j).toNat))) 9⟩] u3 := M
    refine pl_appI M (want_no rfl) (some 25) rfl 72 72 9 (.string ⟨#[]⟩) Tryz.underlying72 info9 rfl 0 g9 j cap9 Z9 (vS (ws16 f j)) rfl hZ9 (by rw [vS_len, ws16_len]) (by omega) 1 g1 9 (.string (hxT (f j).toNat)) rfl rfl (fun _ => by kernel_rfl) ?_
    intro g7 cap7 Z7 u4 hZ7 M
    replace M : Mem ⟨w, []⟩ [⟨g1, .cells (av 1 (fun _ => .string (hxT (f j).toNat))) 9⟩, ⟨g7, Z7⟩] u4 := M
    refine pl_val (want_no rfl) (some 7) rfl (.slice (some ⟨g7, 0, none⟩) (j + 1) cap7) (fun _ => by kernel_rfl) ?_
    refine pl_nil ?_
    refine au_block ?_
    refine au_then ?_
    refine rg_lit ?_
    refine pl_val (want_no rfl) (some 26) rfl (.int .i64 ((j + 1 : Nat) : Int)) (fun w => Eq.trans (b := .ok (.value (.int .i64 (IntKind.wrap .i64 ((j : Int) + 1)))) w) (by kernel_rfl) (by rw [wrap64 (by omega) (by omega)]; congr 3)) ?_
    refine pl_val (want_no rfl) (some 15) rfl (.int .i64 ((j + 1 : Nat) : Int)) (fun _ => by kernel_rfl) ?_
    refine pl_nil ?_
    refine au_then ?_
    exact ⟨fun k_ => ([.int .u16 (f j), undef, undef, undef, undef, undef, undef, .bool true, .pointer (some ⟨g, (o + j), none⟩), .int .u16 (f j), .slice (some ⟨g9, 0, none⟩) j cap9, .int .u16 (f j), .int .u64 (((f j).toNat : Nat) : Int), .int .i64 16, .string (hxT (f j).toNat), .slice (some ⟨g1, 0, none⟩) 1 1, .slice (some ⟨g7, 0, none⟩) (j + 1) cap7, .int .i64 ((j + 1 : Nat) : Int)] : List Value).getD (k_ - 9) undef, g7, cap7, Z7, by kernel_rfl, by rw [ws16_step]; exact hZ7, M.drop (.cons _ (.cons_cons _ .slnil))⟩
  · intro a u0 hI
    obtain ⟨v1, g9, cap9, Z9, rfl, hZ9, M⟩ := hI
    refine wp_seq ?_
    refine rg_lit ?_
    refine pl_val (want_no rfl) (some 16) rfl (.bool false) (fun w => Eq.trans (b := .ok (.value (.bool (decide ((n : Int) < (n : Int))))) w) (by kernel_rfl) (by rw [decide_eq_false (by omega)])) ?_
    refine pl_nil ?_
    refine au_then ?_
    refine wp_seq ?_
    refine wp_cond_false (by kernel_rfl) ?_
    refine wp_exit ?_
    refine au_then_exit ?_
    refine au_then_exit ?_
    refine au_block_exit ?_
    refine au_then ?_
    refine wp_seq ?_
    refine rg_lit ?_
    refine pl_val (want_no rfl) (some 27) rfl (.slice (some ⟨g9, 0, none⟩) n cap9) (fun _ => by kernel_rfl) ?_
    refine pl_val (want_no rfl) (some 28) rfl (.string sep) (fun _ => by kernel_rfl) ?_
    refine pl_call M (want_no rfl) (some 29) rfl 94 #[.slice (some ⟨g9, 0, none⟩) n cap9, .string sep] (.string (jn (ws16 f n) sep)) (fun _ => by kernel_rfl) (fun w M => c_JoinN g9 cap9 n Z9 (ws16 f n) sep (ws16_len f n) (by omega) (by have := ws16_join f n hn sep hs; omega) w (M.get 0 rfl) hZ9) ?_
    intro u2 M
    refine pl_val (want_no rfl) (some 6) rfl (.string (jn (ws16 f n) sep)) (fun _ => by kernel_rfl) ?_
    refine pl_nil ?_
    refine au_then ?_
    refine wp_ret ?_
    exact bodyPost_ret (v := .string (jn (ws16 f n) sep)) (results_tmp1 Tryz.results75 _ _ _ (by kernel_rfl)) (by kernel_rfl) ⟨rfl, below_grown M.old⟩

set_option maxRecDepth 100000 in
set_option maxHeartbeats 4000000 in
set_option linter.unusedSimpArgs false in
theorem c_joined10 (g o n cap : Nat) (f : Nat → Int) (sep : ByteArray) (hn : n ≤ 8) (hs : sep.size ≤ 4) (hf : ∀ i, 0 ≤ f i ∧ f i < 256) (w : World) (hL : Laid w) (hc : ∀ i, i < n → w.cell? ⟨g, o + i, none⟩ = some (.int .u16 (f i))) :
    Calls Tryz.prog 75 #[.slice (some ⟨g, o, none⟩) n cap, .string sep, .int .i64 10] w fun r w' => r = .returned (.string (jn (ws10 f n) sep)) ∧ Below w.heap.size w w' := by
  go_enter Tryz.func75, Tryz.ntmps75
  have M := Mem.start hL
  refine wp_seq ?_
  refine rg_lit ?_
  refine pl_val (want_no rfl) (some 6) rfl (.string ⟨#[]⟩) (fun _ => by kernel_rfl) ?_
  refine pl_nil ?_
  refine au_then ?_
  refine wp_seq ?_
  refine rg_lit ?_
  refine pl_val (want_no rfl) (some 10) rfl (.slice (some ⟨g, o, none⟩) n cap) (fun _ => by kernel_rfl) ?_
  refine pl_val (want_no rfl) (some 11) rfl (.int .i64 (n : Int)) (fun _ => by kernel_rfl) ?_
  refine pl_makeI M (want_no rfl) (some 12) rfl 72 9 (.string ⟨#[]⟩) Tryz.underlying72 info9 _ _ rfl .i64 .i64 (by kernel_rfl) n (by kernel_rfl) (by omega) ?_
  intro g8 Z8 u1 hZ8 M
  replace M : Mem ⟨w, []⟩ [⟨g8, Z8⟩] u1 := M
  refine pl_val (want_no rfl) (some 7) rfl (.slice (some ⟨g8, 0, none⟩) 0 n) (fun _ => by kernel_rfl) ?_
  refine pl_nil ?_
  refine au_then ?_
  refine wp_seq ?_
  refine wp_seq ?_
  refine rg_lit ?_
  refine pl_val (want_no rfl) (some 13) rfl (.slice (some ⟨g, o, none⟩) n cap) (fun _ => by kernel_rfl) ?_
  refine pl_val (want_no rfl) (some 14) rfl (.int .i64 (n : Int)) (fun _ => by kernel_rfl) ?_
  refine pl_val (want_no rfl) (some 15) rfl (.int .i64 0) (fun _ => by kernel_rfl) ?_
  refine pl_nil ?_
  refine au_then ?_
  refine wp_block ?_
  refine au_loop (fun j a w' => ∃ (v1 : Nat → Value) (g9 cap9 : Nat) (Z9 : Obj), a = ⟨#[.slice (some ⟨g, o, none⟩) n cap, .string sep, .int .i64 10, undef, undef, undef, .string ⟨#[]⟩, .slice (some ⟨g9, 0, none⟩) j cap9, undef, v1 9, .slice (some ⟨g, o, none⟩) n cap, .int .i64 (n : Int), .slice (some ⟨g8, 0, none⟩) 0 n, .slice (some ⟨g, o, none⟩) n cap, .int .i64 (n : Int), .int .i64 (j : Int), v1 16, v1 17, v1 18, v1 19, v1 20, v1 21, v1 22, v1 23, v1 24, v1 25, v1 26, undef, undef, undef], []⟩ ∧ SB Z9 cap9 (vS (ws10 f j)) ∧ Mem ⟨w, []⟩ [⟨g9, Z9⟩] w') n ⟨fun k_ => ([undef, undef, undef, undef, undef, undef, undef, undef, undef, undef, undef, undef, undef, undef, undef, undef, undef, undef] : List Value).getD (k_ - 9) undef, g8, n, Z8, by kernel_rfl, hZ8, M⟩ ?_ ?_
  · intro j a u0 hj hI
    obtain ⟨v1, g9, cap9, Z9, rfl, hZ9, M⟩ := hI
    refine wp_seq ?_
    refine rg_lit ?_
    refine pl_val (want_no rfl) (some 16) rfl (.bool true) (fun w => Eq.trans (b := .ok (.value (.bool (decide ((j : Int) < (n : Int))))) w) (by kernel_rfl) (by rw [decide_eq_true (by omega)])) ?_
    refine pl_nil ?_
    refine au_then ?_
    refine wp_seq ?_
    refine wp_cond_true (by kernel_rfl) ?_
    refine wp_skip ?_
    refine au_then ?_
    refine wp_seq ?_
    refine wp_block ?_
    refine wp_seq ?_
    refine rg_lit ?_
    refine pl_val (want_no rfl) (some 17) rfl (.pointer (some ⟨g, (o + j), none⟩)) (run_ixL 99 32 Tryz.underlying99 inz32 _ _ rfl g o n cap (by kernel_rfl) .i64 j (by kernel_rfl) (by omega)) ?_
    refine pl_cell M (want_no rfl) (some 18) rfl 32 _ rfl g (o + j) (by kernel_rfl) (.int .u16 (f j)) (fun _ => by kernel_rfl) (fun w M => M.oldc (hc j (by omega)) (by simp)) ?_
    refine pl_val (want_no rfl) (some 9) rfl (.int .u16 (f j)) (fun _ => by kernel_rfl) ?_
    refine pl_nil ?_
    refine au_then ?_
    refine rg_lit ?_
    refine pl_val (want_no rfl) (some 19) rfl (.slice (some ⟨g9, 0, none⟩) j cap9) (fun _ => by kernel_rfl) ?_
    refine pl_val (want_no rfl) (some 20) rfl (.int .u16 (f j)) (fun _ => by kernel_rfl) ?_
    refine pl_val (want_no rfl) (some 21) rfl (.int .u64 (((f j).toNat : Nat) : Int)) (fun w => Eq.trans (b := .ok (.value (.int .u64 (cv .u64 (f j)))) w) (by kernel_rfl) (by have := hf j; rw [cv_u64]; congr 3; omega)) ?_
    refine pl_val (want_no rfl) (some 22) rfl (.int .i64 10) (fun _ => by kernel_rfl) ?_
    refine pl_call M (want_no rfl) (some 23) rfl 53 #[.int .u64 (((f j).toNat : Nat) : Int), .int .i64 10] (.string (dcT (((f j).toNat : Nat) : Int))) (fun _ => by kernel_rfl) (fun w M => c_fmt10 (f j).toNat (by have := hf j; omega) w M.laid) ?_
    intro u2 M
    refine pl_mk M (want_no rfl) (some 24) rfl (fun g1 => .slice (some ⟨g1, 0, none⟩) 1 1) (.cells (av 1 (fun _ => .string (dcT (((f j).toNat : Nat) : Int)))) 9) (fun _ => by kernel_rfl) ?_
    intro g1 u3 M
    replace M : Mem ⟨w, []⟩ [⟨g9, Z9⟩, ⟨g1, .cells (av 1 (fun _ => .string (dcT (((f j).toNat : Nat) : Int)))) 9⟩] u3 := M
    refine pl_appI M (want_no rfl) (some 25) rfl 72 72 9 (.string ⟨#[]⟩) Tryz.underlying72 info9 rfl 0 g9 j cap9 Z9 (vS (ws10 f j)) rfl hZ9 (by rw [vS_len, ws10_len]) (by omega) 1 g1 9 (.string (dcT (((f j).toNat : Nat) : Int))) rfl rfl (fun _ => by kernel_rfl) ?_
    intro g7 cap7 Z7 u4 hZ7 M
    replace M : Mem ⟨w, []⟩ [⟨g1, .cells (av 1 (fun _ => .string (dcT (((f j).toNat : Nat) : Int)))) 9⟩, ⟨g7, Z7⟩] u4 := M
    refine pl_val (want_no rfl) (some 7) rfl (.slice (some ⟨g7, 0, none⟩) (j + 1) cap7) (fun _ => by kernel_rfl) ?_
    refine pl_nil ?_
    refine au_block ?_
    refine au_then ?_
    refine rg_lit ?_
    refine pl_val (want_no rfl) (some 26) rfl (.int .i64 ((j + 1 : Nat) : Int)) (fun w => Eq.trans (b := .ok (.value (.int .i64 (IntKind.wrap .i64 ((j : Int) + 1)))) w) (by kernel_rfl) (by rw [wrap64 (by omega) (by omega)]; congr 3)) ?_
    refine pl_val (want_no rfl) (some 15) rfl (.int .i64 ((j + 1 : Nat) : Int)) (fun _ => by kernel_rfl) ?_
    refine pl_nil ?_
    refine au_then ?_
    exact ⟨fun k_ => ([.int .u16 (f j), undef, undef, undef, undef, undef, undef, .bool true, .pointer (some ⟨g, (o + j), none⟩), .int .u16 (f j), .slice (some ⟨g9, 0, none⟩) j cap9, .int .u16 (f j), .int .u64 (((f j).toNat : Nat) : Int), .int .i64 10, .string (dcT (((f j).toNat : Nat) : Int)), .slice (some ⟨g1, 0, none⟩) 1 1, .slice (some ⟨g7, 0, none⟩) (j + 1) cap7, .int .i64 ((j + 1 : Nat) : Int)] : List Value).getD (k_ - 9) undef, g7, cap7, Z7, by kernel_rfl, by rw [ws10_step]; exact hZ7, M.drop (.cons _ (.cons_cons _ .slnil))⟩
  · intro a u0 hI
    obtain ⟨v1, g9, cap9, Z9, rfl, hZ9, M⟩ := hI
    refine wp_seq ?_
    refine rg_lit ?_
    refine pl_val (want_no rfl) (some 16) rfl (.bool false) (fun w => Eq.trans (b := .ok (.value (.bool (decide ((n : Int) < (n : Int))))) w) (by kernel_rfl) (by rw [decide_eq_false (by omega)])) ?_
    refine pl_nil ?_
    refine au_then ?_
    refine wp_seq ?_
    refine wp_cond_false (by kernel_rfl) ?_
    refine wp_exit ?_
    refine au_then_exit ?_
    refine au_then_exit ?_
    refine au_block_exit ?_
    refine au_then ?_
    refine wp_seq ?_
    refine rg_lit ?_
    refine pl_val (want_no rfl) (some 27) rfl (.slice (some ⟨g9, 0, none⟩) n cap9) (fun _ => by kernel_rfl) ?_
    refine pl_val (want_no rfl) (some 28) rfl (.string sep) (fun _ => by kernel_rfl) ?_
    refine pl_call M (want_no rfl) (some 29) rfl 94 #[.slice (some ⟨g9, 0, none⟩) n cap9, .string sep] (.string (jn (ws10 f n) sep)) (fun _ => by kernel_rfl) (fun w M => c_JoinN g9 cap9 n Z9 (ws10 f n) sep (ws10_len f n) (by omega) (by have := ws10_join f n hn sep hs; omega) w (M.get 0 rfl) hZ9) ?_
    intro u2 M
    refine pl_val (want_no rfl) (some 6) rfl (.string (jn (ws10 f n) sep)) (fun _ => by kernel_rfl) ?_
    refine pl_nil ?_
    refine au_then ?_
    refine wp_ret ?_
    exact bodyPost_ret (v := .string (jn (ws10 f n) sep)) (results_tmp1 Tryz.results75 _ _ _ (by kernel_rfl)) (by kernel_rfl) ⟨rfl, below_grown M.old⟩


end Go.Proofs.YtndonmdgplojnaaGreatDoor

/- Texts of addresses and prefixes: the walks of the program. -/
namespace Go.Proofs.YtndonmdgplojnaaGreatDoor
open Go.RowKit

def uF (f : Nat → Int) : Nat := (uS f 8).2.1.toNat
def uT (f : Nat → Int) : Nat := (uS f 8).2.2.toNat
theorem uF_le (f : Nat → Int) : uF f ≤ uT f ∧ uT f ≤ 8 := by
  have := uS_nn f 8
  unfold uF uT
  omega
theorem c_untoldN (f : Nat → Int) (w : World) (hL : Laid w) : Calls Tryz.prog 74 #[.agg (av 8 (w16 f))] w fun r w' => r = .returned (.tuple #[.int .i64 ((uF f : Nat) : Int), .int .i64 ((uT f : Nat) : Int)]) ∧ Below w.heap.size w w' := by
  have h := uS_nn f 8
  refine call_val (c_untold f w hL) ?_
  unfold uF uT
  rw [Int.toNat_of_nonneg (by omega), Int.toNat_of_nonneg (by omega)]
def so (k : Nat) : Nat := if 8 = k then 0 else k
set_option linter.unusedSimpArgs false in
theorem run_slAG {P : Program} {a : Act} {o : Oper} (t : TypeId) (len : Nat) (elem : TypeId) (hu : P.underlying t = some (.array len elem)) (hs : (P.info? elem).map (·.size) = some 1) (x lo : Operand) (ho : o.op = .slice t x (some lo) none none) (g : Nat) (hx : a.eval x = .pointer (some ⟨g, 0, none⟩)) (k : IntKind) (i : Nat) (hi : a.eval lo = .int k (i : Int)) (hle : i ≤ len) (w : World) :
    (execOp a.eval o).run P w = .ok (.value (.slice (some ⟨g, if len = i then 0 else i, none⟩) (len - i) (len - i))) w := by
  cases hq : P.info? elem with
  | none => simp [hq] at hs
  | some u =>
    have hsz : u.size = 1 := by simpa [hq] using hs
    unfold execOp
    by_cases h : len = i
    · subst h
      simp [ho, hx, hi, Instr.sliceAt, Instr.sureAddr, run_underlying hu, Instr.sliceBounds, run_sliceBound, sizeOf, typeInfo, hq, hsz]
    · rw [if_neg h]
      simp [ho, hx, hi, Instr.sliceAt, Instr.sureAddr, run_underlying hu, Instr.sliceBounds, run_sliceBound, sizeOf, typeInfo, hq, hsz, add_at, h, hle]
theorem run_slAL {P : Program} {a : Act} {o : Oper} (t : TypeId) (elem : TypeId) (hu : P.underlying t = some (.array 8 elem)) (hs : (P.info? elem).map (·.size) = some 1) (x lo : Operand) (ho : o.op = .slice t x (some lo) none none) (g : Nat) (hx : a.eval x = .pointer (some ⟨g, 0, none⟩)) (k : IntKind) (i : Nat) (hi : a.eval lo = .int k (i : Int)) (hle : i ≤ 8) (w : World) :
    (execOp a.eval o).run P w = .ok (.value (.slice (some ⟨g, so i, none⟩) (8 - i) (8 - i))) w := run_slAG t 8 elem hu hs x lo ho g hx k i hi hle w
/-- The text of an address of IPv6. -/
def tx6 (h l : Int) : ByteArray := if ((uF (ggs h l) : Nat) : Int) = ((uT (ggs h l) : Nat) : Int) then jn (ws16 (ggs h l) 8) ⟨#[58]⟩ else (jn (ws16 (ggs h l) (uF (ggs h l))) ⟨#[58]⟩ ++ (⟨#[58, 58]⟩ : ByteArray)) ++ jn (ws16 (fun i => ggs h l (uT (ggs h l) + i)) (8 - uT (ggs h l))) ⟨#[58]⟩
theorem jn16_le (f : Nat → Int) (n : Nat) (hn : n ≤ 8) : (jn (ws16 f n) ⟨#[58]⟩).size ≤ 100 := ws16_join f n hn ⟨#[58]⟩ (by decide)
theorem jn10_le (f : Nat → Int) (n : Nat) (hn : n ≤ 8) : (jn (ws10 f n) ⟨#[46]⟩).size ≤ 100 := ws10_join f n hn ⟨#[46]⟩ (by decide)
set_option maxRecDepth 100000 in
set_option maxHeartbeats 4000000 in
set_option linter.unusedSimpArgs false in
theorem c_text6 (v : Bool) (h l : Int) (w : World) (hL : Laid w)  :
    Calls Tryz.prog 50 #[.agg (av 3 (ls [.bool (v), .int .u64 h, .int .u64 l]))] w fun r w' => r = .returned (.string (tx6 h l)) ∧ Below w.heap.size w w' := by
  go_enter Tryz.func50, Tryz.ntmps50
  have M := Mem.start hL
  refine wp_seq ?_
  refine rg_lit ?_
  refine pl_new M (want_no rfl) (some 1) rfl (.cells (av 3 (ls [.bool (v), .int .u64 h, .int .u64 l])) 24) (fun _ => by kernel_rfl) ?_
  intro g1 u1 M
  replace M : Mem ⟨w, []⟩ [⟨g1, .cells (av 3 (ls [.bool (v), .int .u64 h, .int .u64 l])) 24⟩] u1 := M
  refine pl_val (want_no rfl) (some 2) rfl (.string ⟨#[]⟩) (fun _ => by kernel_rfl) ?_
  refine pl_nil ?_
  refine au_then ?_
  refine wp_seq ?_
  refine rg_lit ?_
  refine pl_load M (want_no rfl) (some 6) rfl 24 _ rfl 0 g1 0 (by kernel_rfl) 3 24 (ls [.bool (v), .int .u64 h, .int .u64 l]) rfl 3 (ls [.bool (v), .int .u64 h, .int .u64 l]) (fun j _ => by rw [Nat.zero_add]) (by decide) _ Tryz.underlying24 rfl inz24 ?_
  refine pl_call M (want_no rfl) (some 7) rfl 73 #[.agg (av 3 (ls [.bool (v), .int .u64 h, .int .u64 l]))] (.agg (av 8 (w16 (ggs h l)))) (fun _ => by kernel_rfl) (fun w M => c_groupsOf v h l w M.laid) ?_
  intro u2 M
  refine pl_new M (want_no rfl) (some 3) rfl (.cells (av 8 (w16 (fun _ => 0))) 94) (fun _ => by kernel_rfl) ?_
  intro g2 u3 M
  replace M : Mem ⟨w, []⟩ [⟨g1, .cells (av 3 (ls [.bool (v), .int .u64 h, .int .u64 l])) 24⟩, ⟨g2, .cells (av 8 (w16 (fun _ => 0))) 94⟩] u3 := M
  refine pl_put M (want_no rfl) rfl 94 _ _ rfl 1 g2 0 (by kernel_rfl) 8 94 (w16 (fun _ => 0)) rfl 8 (w16 (ggs h l)) (w16 (ggs h l)) (by kernel_rfl) inz94 (by decide) (fun _ _ => rfl) (fun j hj => by rw [if_pos (by omega), Nat.sub_zero]) ?_
  intro u4 M
  replace M : Mem ⟨w, []⟩ [⟨g1, .cells (av 3 (ls [.bool (v), .int .u64 h, .int .u64 l])) 24⟩, ⟨g2, .cells (av 8 (w16 (ggs h l))) 94⟩] u4 := M
  refine pl_nil ?_
  refine au_then ?_
  refine wp_seq ?_
  refine rg_lit ?_
  refine pl_load M (want_no rfl) (some 9) rfl 94 _ rfl 1 g2 0 (by kernel_rfl) 8 94 (w16 (ggs h l)) rfl 8 (w16 (ggs h l)) (fun j _ => by rw [Nat.zero_add]) (by decide) _ Tryz.underlying94 rfl inz94 ?_
  refine pl_call M (want_no rfl) (some 10) rfl 74 #[.agg (av 8 (w16 (ggs h l)))] (.tuple #[.int .i64 ((uF (ggs h l) : Nat) : Int), .int .i64 ((uT (ggs h l) : Nat) : Int)]) (fun _ => by kernel_rfl) (fun w M => c_untoldN (ggs h l) w M.laid) ?_
  intro u5 M
  refine pl_val (want_no rfl) (some 8) rfl (.tuple #[.int .i64 ((uF (ggs h l) : Nat) : Int), .int .i64 ((uT (ggs h l) : Nat) : Int)]) (fun _ => by kernel_rfl) ?_
  refine pl_val (want_no rfl) (some 11) rfl (.int .i64 ((uF (ggs h l) : Nat) : Int)) (fun _ => by kernel_rfl) ?_
  refine pl_val (want_no rfl) (some 12) rfl (.int .i64 ((uT (ggs h l) : Nat) : Int)) (fun _ => by kernel_rfl) ?_
  refine pl_val (want_no rfl) (some 4) rfl (.int .i64 ((uF (ggs h l) : Nat) : Int)) (fun _ => by kernel_rfl) ?_
  refine pl_val (want_no rfl) (some 5) rfl (.int .i64 ((uT (ggs h l) : Nat) : Int)) (fun _ => by kernel_rfl) ?_
  refine pl_nil ?_
  refine au_then ?_
  refine wp_seq ?_
  refine wp_seq ?_
  refine rg_lit ?_
  refine pl_val (want_no rfl) (some 13) rfl (.int .i64 ((uF (ggs h l) : Nat) : Int)) (fun _ => by kernel_rfl) ?_
  refine pl_val (want_no rfl) (some 14) rfl (.int .i64 ((uT (ggs h l) : Nat) : Int)) (fun _ => by kernel_rfl) ?_
  by_cases c0 : ((uF (ggs h l) : Nat) : Int) = ((uT (ggs h l) : Nat) : Int)
  · skip
    refine pl_val (want_no rfl) (some 15) rfl (.bool true) (fun w => Eq.trans (b := .ok (.value (.bool (decide (((uF (ggs h l) : Nat) : Int) = ((uT (ggs h l) : Nat) : Int))))) w) (by kernel_rfl) (by rw [decide_eq_true (c0)])) ?_
    refine pl_nil ?_
    refine au_then ?_
    refine wp_cond_true (by kernel_rfl) ?_
    refine wp_seq ?_
    refine rg_lit ?_
    refine pl_val (want_no rfl) (some 16) rfl (.slice (some ⟨g2, 0, none⟩) 8 8) (fun _ => by kernel_rfl) ?_
    refine pl_call M (want_no rfl) (some 17) rfl 75 #[.slice (some ⟨g2, 0, none⟩) 8 8, .string ⟨#[58]⟩, .int .i64 16] (.string (jn (ws16 (ggs h l) 8) ⟨#[58]⟩)) (fun _ => by kernel_rfl) (fun w M => c_joined16 g2 0 8 8 (ggs h l) ⟨#[58]⟩ (by have := uF_le (ggs h l); omega) (by decide) (fun i => ggs_nn h l _) w M.laid (fun i hi => by rw [Nat.zero_add]; exact cell_av (M.get 1 rfl) (by have := uF_le (ggs h l); omega))) ?_
    intro u6 M
    refine pl_val (want_no rfl) (some 2) rfl (.string (jn (ws16 (ggs h l) 8) ⟨#[58]⟩)) (fun _ => by kernel_rfl) ?_
    refine pl_nil ?_
    refine au_then ?_
    refine wp_ret ?_
    refine au_then_ret ?_
    have e0 : (tx6 h l) = (jn (ws16 (ggs h l) 8) ⟨#[58]⟩) := by unfold tx6; rw [if_pos c0]
    exact bodyPost_ret (v := .string (jn (ws16 (ggs h l) 8) ⟨#[58]⟩)) (results_tmp1 Tryz.results50 _ _ _ (by kernel_rfl)) (by kernel_rfl) ⟨by rw [e0], below_grown M.old⟩
  · skip
    refine pl_val (want_no rfl) (some 15) rfl (.bool false) (fun w => Eq.trans (b := .ok (.value (.bool (decide (((uF (ggs h l) : Nat) : Int) = ((uT (ggs h l) : Nat) : Int))))) w) (by kernel_rfl) (by rw [decide_eq_false (c0)])) ?_
    refine pl_nil ?_
    refine au_then ?_
    refine wp_cond_false (by kernel_rfl) ?_
    refine wp_skip ?_
    refine au_then ?_
    refine wp_seq ?_
    refine rg_tail M 8 (by kernel_rfl) (by kernel_rfl) ?_
    simp only [List.take_succ_cons, List.take_zero]
    refine k_val (want_no rfl) (some 18) rfl (.int .i64 ((uF (ggs h l) : Nat) : Int)) (fun _ => by kernel_rfl) ?_
    refine k_val (want_no rfl) (some 19) rfl (.slice (some ⟨g2, 0, none⟩) (uF (ggs h l)) 8) (run_slAH 94 8 32 Tryz.underlying94 inz32 _ _ rfl g2 0 (by kernel_rfl) .i64 (uF (ggs h l)) (by kernel_rfl) (by have := uF_le (ggs h l); omega) (by decide)) ?_
    refine k_call M (want_no rfl) (some 20) rfl 75 #[.slice (some ⟨g2, 0, none⟩) (uF (ggs h l)) 8, .string ⟨#[58]⟩, .int .i64 16] (.string (jn (ws16 (ggs h l) (uF (ggs h l))) ⟨#[58]⟩)) (fun _ => by kernel_rfl) (fun w M => c_joined16 g2 0 (uF (ggs h l)) 8 (ggs h l) ⟨#[58]⟩ (by have := uF_le (ggs h l); omega) (by decide) (fun i => ggs_nn h l _) w M.laid (fun i hi => by rw [Nat.zero_add]; exact cell_av (M.get 1 rfl) (by have := uF_le (ggs h l); omega))) ?_
    refine k_val (want_no rfl) (some 21) rfl (.string ((jn (ws16 (ggs h l) (uF (ggs h l))) ⟨#[58]⟩) ++ (⟨#[58, 58]⟩ : ByteArray))) (run_cat 9 9 _ _ rfl (jn (ws16 (ggs h l) (uF (ggs h l))) ⟨#[58]⟩) ⟨#[58, 58]⟩ (by kernel_rfl) (by kernel_rfl) (by have q0 := jn16_le (ggs h l) (uF (ggs h l)) (by have := uF_le (ggs h l); omega); have q2 : (⟨#[58, 58]⟩ : ByteArray).size = 2 := rfl; omega)) ?_
    refine k_val (want_no rfl) (some 22) rfl (.int .i64 ((uT (ggs h l) : Nat) : Int)) (fun _ => by kernel_rfl) ?_
    refine k_val (want_no rfl) (some 23) rfl (.slice (some ⟨g2, (so (uT (ggs h l))), none⟩) (8 - uT (ggs h l)) (8 - uT (ggs h l))) (run_slAL 94 32 Tryz.underlying94 inz32 _ _ rfl g2 (by kernel_rfl) .i64 (uT (ggs h l)) (by kernel_rfl) (by have := uF_le (ggs h l); omega)) ?_
    refine k_call M (want_no rfl) (some 24) rfl 75 #[.slice (some ⟨g2, (so (uT (ggs h l))), none⟩) (8 - uT (ggs h l)) (8 - uT (ggs h l)), .string ⟨#[58]⟩, .int .i64 16] (.string (jn (ws16 (fun i => (ggs h l) (uT (ggs h l) + i)) (8 - uT (ggs h l))) ⟨#[58]⟩)) (fun _ => by kernel_rfl) (fun w M => c_joined16 g2 (so (uT (ggs h l))) (8 - uT (ggs h l)) (8 - uT (ggs h l)) (fun i => (ggs h l) (uT (ggs h l) + i)) ⟨#[58]⟩ (by have := uF_le (ggs h l); omega) (by decide) (fun i => ggs_nn h l _) w M.laid (fun i hi => by rw [show so (uT (ggs h l)) = uT (ggs h l) from if_neg (by omega)]; exact cell_av (M.get 1 rfl) (by omega))) ?_
    refine k_val (want_no rfl) (some 25) rfl (.string (((jn (ws16 (ggs h l) (uF (ggs h l))) ⟨#[58]⟩) ++ (⟨#[58, 58]⟩ : ByteArray)) ++ (jn (ws16 (fun i => (ggs h l) (uT (ggs h l) + i)) (8 - uT (ggs h l))) ⟨#[58]⟩))) (run_cat 9 9 _ _ rfl ((jn (ws16 (ggs h l) (uF (ggs h l))) ⟨#[58]⟩) ++ (⟨#[58, 58]⟩ : ByteArray)) (jn (ws16 (fun i => (ggs h l) (uT (ggs h l) + i)) (8 - uT (ggs h l))) ⟨#[58]⟩) (by kernel_rfl) (by kernel_rfl) (by simp only [ByteArray.size_append]; have q0 := jn16_le (ggs h l) (uF (ggs h l)) (by have := uF_le (ggs h l); omega); have q1 := jn16_le (fun i => ggs h l (uT (ggs h l) + i)) (8 - uT (ggs h l)) (by omega); have q2 : (⟨#[58, 58]⟩ : ByteArray).size = 2 := rfl; omega)) ?_
    refine kl_nil ?_
    intro u6 M
    replace M : Mem ⟨w, []⟩ [⟨g1, .cells (av 3 (ls [.bool (v), .int .u64 h, .int .u64 l])) 24⟩, ⟨g2, .cells (av 8 (w16 (ggs h l))) 94⟩] u6 := M
    refine pl_val (want_no rfl) (some 2) rfl (.string (((jn (ws16 (ggs h l) (uF (ggs h l))) ⟨#[58]⟩) ++ (⟨#[58, 58]⟩ : ByteArray)) ++ (jn (ws16 (fun i => (ggs h l) (uT (ggs h l) + i)) (8 - uT (ggs h l))) ⟨#[58]⟩))) (fun _ => by kernel_rfl) ?_
    refine pl_nil ?_
    refine au_then ?_
    refine wp_ret ?_
    have e0 : (tx6 h l) = (((jn (ws16 (ggs h l) (uF (ggs h l))) ⟨#[58]⟩) ++ (⟨#[58, 58]⟩ : ByteArray)) ++ (jn (ws16 (fun i => (ggs h l) (uT (ggs h l) + i)) (8 - uT (ggs h l))) ⟨#[58]⟩)) := by unfold tx6; rw [if_neg c0]
    exact bodyPost_ret (v := .string (((jn (ws16 (ggs h l) (uF (ggs h l))) ⟨#[58]⟩) ++ (⟨#[58, 58]⟩ : ByteArray)) ++ (jn (ws16 (fun i => (ggs h l) (uT (ggs h l) + i)) (8 - uT (ggs h l))) ⟨#[58]⟩))) (results_tmp1 Tryz.results50 _ _ _ (by kernel_rfl)) (by kernel_rfl) ⟨by rw [e0], below_grown M.old⟩

def qp (l : Int) (j : Nat) : Int := cv .u16 (cv .u8 (sr l (24 - 8 * (j : Int)).toNat))
def qf (l : Int) : Nat → Int := cutf (qp l) 4
theorem qf_nn (l : Int) (j : Nat) : 0 ≤ qf l j ∧ qf l j < 256 := cutf_nn (by decide) (fun i => by unfold qp; rw [cv_u16, cv_u8]; omega) 4 j
def tx4 (l : Int) : ByteArray := jn (ws10 (qf l) 4) ⟨#[46]⟩
def txt (v : Bool) (h l : Int) : ByteArray := if mA v h l = true then (if v = true then tx6 h l else tx4 l) else ⟨#[]⟩
def ptx (v : Bool) (h l b : Int) : ByteArray := if mP v h l b = true then (txt v h l ++ (⟨#[47]⟩ : ByteArray)) ++ dcT b else ⟨#[]⟩
theorem tx6_le (h l : Int) : (tx6 h l).size ≤ 300 := by
  have q := uF_le (ggs h l)
  unfold tx6
  split
  · have := jn16_le (ggs h l) 8 (by decide)
    omega
  · have q0 := jn16_le (ggs h l) (uF (ggs h l)) (by omega)
    have q1 := jn16_le (fun i => ggs h l (uT (ggs h l) + i)) (8 - uT (ggs h l)) (by omega)
    have q2 : (⟨#[58, 58]⟩ : ByteArray).size = 2 := rfl
    simp only [ByteArray.size_append]
    omega
theorem txt_le (v : Bool) (h l : Int) : (txt v h l).size ≤ 300 := by
  unfold txt
  split
  · split
    · exact tx6_le h l
    · have := jn10_le (qf l) 4 (by decide)
      unfold tx4
      omega
  · exact Nat.zero_le _
set_option maxRecDepth 100000 in
set_option maxHeartbeats 4000000 in
set_option linter.unusedSimpArgs false in
theorem c_text4 (v : Bool) (h l : Int) (w : World) (hL : Laid w)  :
    Calls Tryz.prog 51 #[.agg (av 3 (ls [.bool (v), .int .u64 h, .int .u64 l]))] w fun r w' => r = .returned (.string (tx4 l)) ∧ Below w.heap.size w w' := by
  go_enter Tryz.func51, Tryz.ntmps51
  have M := Mem.start hL
  refine wp_seq ?_
  refine rg_lit ?_
  refine pl_new M (want_no rfl) (some 1) rfl (.cells (av 3 (ls [.bool (v), .int .u64 h, .int .u64 l])) 24) (fun _ => by kernel_rfl) ?_
  intro g1 u1 M
  replace M : Mem ⟨w, []⟩ [⟨g1, .cells (av 3 (ls [.bool (v), .int .u64 h, .int .u64 l])) 24⟩] u1 := M
  refine pl_val (want_no rfl) (some 2) rfl (.string ⟨#[]⟩) (fun _ => by kernel_rfl) ?_
  refine pl_nil ?_
  refine au_then ?_
  refine wp_seq ?_
  refine rg_lit ?_
  refine pl_new M (want_no rfl) (some 3) rfl (.cells (av 4 (w16 (fun _ => 0))) 100) (fun _ => by kernel_rfl) ?_
  intro g2 u2 M
  replace M : Mem ⟨w, []⟩ [⟨g1, .cells (av 3 (ls [.bool (v), .int .u64 h, .int .u64 l])) 24⟩, ⟨g2, .cells (av 4 (w16 (fun _ => 0))) 100⟩] u2 := M
  refine pl_nil ?_
  refine au_then ?_
  refine wp_seq ?_
  refine wp_seq ?_
  refine rg_lit ?_
  refine pl_val (want_no rfl) (some 5) rfl (.int .i64 0) (fun _ => by kernel_rfl) ?_
  refine pl_nil ?_
  refine au_then ?_
  refine wp_block ?_
  refine au_loop (fun j a w' => ∃ v1 : Nat → Value, a = ⟨#[.agg (av 3 (ls [.bool (v), .int .u64 h, .int .u64 l])), .pointer (some ⟨g1, 0, none⟩), .string ⟨#[]⟩, .pointer (some ⟨g2, 0, none⟩), v1 4, .int .i64 (j : Int), v1 6, v1 7, v1 8, v1 9, v1 10, v1 11, v1 12, v1 13, v1 14, v1 15, v1 16, v1 17, v1 18, undef, undef], []⟩ ∧ Mem ⟨w, []⟩ [⟨g1, .cells (av 3 (ls [.bool (v), .int .u64 h, .int .u64 l])) 24⟩, ⟨g2, .cells (av 4 (w16 (cutf (qp l) j))) 100⟩] w') 4 ⟨fun k_ => ([undef, undef, undef, undef, undef, undef, undef, undef, undef, undef, undef, undef, undef, undef, undef] : List Value).getD (k_ - 4) undef, by kernel_rfl, (by rw [cutf_0]; exact M)⟩ ?_ ?_
  · intro j a u0 hj hI
    obtain ⟨v1, rfl, M⟩ := hI
    refine wp_seq ?_
    refine rg_lit ?_
    refine pl_val (want_no rfl) (some 6) rfl (.bool true) (fun w => Eq.trans (b := .ok (.value (.bool (decide ((j : Int) < 4)))) w) (by kernel_rfl) (by rw [decide_eq_true (by omega)])) ?_
    refine pl_nil ?_
    refine au_then ?_
    refine wp_seq ?_
    refine wp_cond_true (by kernel_rfl) ?_
    refine wp_skip ?_
    refine au_then ?_
    refine wp_seq ?_
    refine wp_block ?_
    refine wp_seq ?_
    refine rg_lit ?_
    refine pl_val (want_no rfl) (some 7) rfl (.int .i64 (j : Int)) (fun _ => by kernel_rfl) ?_
    refine pl_val (want_no rfl) (some 4) rfl (.int .i64 (j : Int)) (fun _ => by kernel_rfl) ?_
    refine pl_nil ?_
    refine au_then ?_
    refine rg_lit ?_
    refine pl_val (want_no rfl) (some 8) rfl (.int .i64 (j : Int)) (fun _ => by kernel_rfl) ?_
    refine pl_val (want_no rfl) (some 9) rfl (.pointer (some ⟨g1, 2, none⟩)) (fun _ => by kernel_rfl) ?_
    refine pl_cell M (want_no rfl) (some 10) rfl 22 _ rfl g1 2 (by kernel_rfl) (.int .u64 l) (fun _ => by kernel_rfl) (fun w M => M.cell 0 rfl (by decide) rfl) ?_
    refine pl_val (want_no rfl) (some 11) rfl (.int .i64 (j : Int)) (fun _ => by kernel_rfl) ?_
    refine pl_val (want_no rfl) (some 12) rfl (.int .i64 (8 * (j : Int))) (fun w => Eq.trans (b := .ok (.value (.int .i64 (IntKind.wrap .i64 (8 * (j : Int))))) w) (by kernel_rfl) (by rw [wrap64 (by omega) (by omega)])) ?_
    refine pl_val (want_no rfl) (some 13) rfl (.int .i64 (24 - (8 * (j : Int)))) (fun w => Eq.trans (b := .ok (.value (.int .i64 (IntKind.wrap .i64 (24 - (8 * (j : Int)))))) w) (by kernel_rfl) (by rw [wrap64 (by omega) (by omega)])) ?_
    refine pl_val (want_no rfl) (some 14) rfl (.int .u64 (sr l ((24 - (8 * (j : Int))).toNat))) (run_shrV 22 3 _ _ rfl l .i64 ((24 - (8 * (j : Int))).toNat) (by kernel_rfl) (nat_of (k := .i64) (by kernel_rfl) (by omega)) (by omega)) ?_
    refine pl_val (want_no rfl) (some 15) rfl (.int .u8 (cv .u8 (sr l ((24 - (8 * (j : Int))).toNat)))) (fun _ => by kernel_rfl) ?_
    refine pl_val (want_no rfl) (some 16) rfl (.int .u16 (qp l j)) (fun w => Eq.trans (b := .ok (.value (.int .u16 (cv .u16 (cv .u8 (sr l ((24 - (8 * (j : Int))).toNat)))))) w) (by kernel_rfl) rfl) ?_
    refine pl_val (want_no rfl) (some 17) rfl (.pointer (some ⟨g2, j, none⟩)) (run_ix1 100 4 32 Tryz.underlying100 inz32 _ _ rfl g2 (by kernel_rfl) .i64 (j) (by kernel_rfl) (by omega)) ?_
    refine pl_put1 M (want_no rfl) rfl 32 _ _ rfl 1 g2 j (by kernel_rfl) 4 100 (w16 (cutf (qp l) j)) rfl (.int .u16 (qp l j)) (w16 (upd (cutf (qp l) j) j (qp l j))) (by kernel_rfl) inz32 (by omega) rfl rfl (fun j _ => put_w16 _ _ _ j) ?_
    intro u3 M
    replace M : Mem ⟨w, []⟩ [⟨g1, .cells (av 3 (ls [.bool (v), .int .u64 h, .int .u64 l])) 24⟩, ⟨g2, .cells (av 4 (w16 (upd (cutf (qp l) j) j (qp l j)))) 100⟩] u3 := M
    refine pl_nil ?_
    refine au_block ?_
    refine au_then ?_
    refine rg_lit ?_
    refine pl_val (want_no rfl) (some 18) rfl (.int .i64 ((j + 1 : Nat) : Int)) (fun w => Eq.trans (b := .ok (.value (.int .i64 (IntKind.wrap .i64 ((j : Int) + 1)))) w) (by kernel_rfl) (by rw [wrap64 (by omega) (by omega)]; congr 3)) ?_
    refine pl_val (want_no rfl) (some 5) rfl (.int .i64 ((j + 1 : Nat) : Int)) (fun _ => by kernel_rfl) ?_
    refine pl_nil ?_
    refine au_then ?_
    rw [cutf_upd] at M
    exact ⟨fun k_ => ([.int .i64 (j : Int), undef, .bool true, .int .i64 (j : Int), .int .i64 (j : Int), .pointer (some ⟨g1, 2, none⟩), .int .u64 l, .int .i64 (j : Int), .int .i64 (8 * (j : Int)), .int .i64 (24 - (8 * (j : Int))), .int .u64 (sr l ((24 - (8 * (j : Int))).toNat)), .int .u8 (cv .u8 (sr l ((24 - (8 * (j : Int))).toNat))), .int .u16 (qp l j), .pointer (some ⟨g2, j, none⟩), .int .i64 ((j + 1 : Nat) : Int)] : List Value).getD (k_ - 4) undef, by kernel_rfl, M⟩
  · intro a u0 hI
    obtain ⟨v1, rfl, M⟩ := hI
    refine wp_seq ?_
    refine rg_lit ?_
    refine pl_val (want_no rfl) (some 6) rfl (.bool false) (fun w => Eq.trans (b := .ok (.value (.bool (decide ((4 : Int) < 4)))) w) (by kernel_rfl) (by rw [decide_eq_false (by omega)])) ?_
    refine pl_nil ?_
    refine au_then ?_
    refine wp_seq ?_
    refine wp_cond_false (by kernel_rfl) ?_
    refine wp_exit ?_
    refine au_then_exit ?_
    refine au_then_exit ?_
    refine au_block_exit ?_
    refine au_then ?_
    refine wp_seq ?_
    refine rg_lit ?_
    refine pl_val (want_no rfl) (some 19) rfl (.slice (some ⟨g2, 0, none⟩) 4 4) (fun _ => by kernel_rfl) ?_
    refine pl_call M (want_no rfl) (some 20) rfl 75 #[.slice (some ⟨g2, 0, none⟩) 4 4, .string ⟨#[46]⟩, .int .i64 10] (.string (jn (ws10 (cutf (qp l) 4) 4) ⟨#[46]⟩)) (fun _ => by kernel_rfl) (fun w M => c_joined10 g2 0 4 4 (cutf (qp l) 4) ⟨#[46]⟩ (by decide) (by decide) (fun i => qf_nn l i) w M.laid (fun i hi => by rw [Nat.zero_add]; exact cell_av (M.get 1 rfl) (by omega))) ?_
    intro u3 M
    refine pl_val (want_no rfl) (some 2) rfl (.string (jn (ws10 (cutf (qp l) 4) 4) ⟨#[46]⟩)) (fun _ => by kernel_rfl) ?_
    refine pl_nil ?_
    refine au_then ?_
    refine wp_ret ?_
    have e0 : (tx4 l) = (jn (ws10 (cutf (qp l) 4) 4) ⟨#[46]⟩) := rfl
    exact bodyPost_ret (v := .string (jn (ws10 (cutf (qp l) 4) 4) ⟨#[46]⟩)) (results_tmp1 Tryz.results51 _ _ _ (by kernel_rfl)) (by kernel_rfl) ⟨by rw [e0], below_grown M.old⟩

set_option maxRecDepth 100000 in
set_option maxHeartbeats 4000000 in
set_option linter.unusedSimpArgs false in
theorem c_Text (v : Bool) (h l : Int) (w : World) (hL : Laid w)  :
    Calls Tryz.prog 22 #[.agg (av 3 (ls [.bool (v), .int .u64 h, .int .u64 l]))] w fun r w' => r = .returned (.string (txt v h l)) ∧ Below w.heap.size w w' := by
  go_enter Tryz.func22, Tryz.ntmps22
  have M := Mem.start hL
  refine wp_seq ?_
  refine rg_lit ?_
  refine pl_new M (want_no rfl) (some 1) rfl (.cells (av 3 (ls [.bool (v), .int .u64 h, .int .u64 l])) 24) (fun _ => by kernel_rfl) ?_
  intro g1 u1 M
  replace M : Mem ⟨w, []⟩ [⟨g1, .cells (av 3 (ls [.bool (v), .int .u64 h, .int .u64 l])) 24⟩] u1 := M
  refine pl_val (want_no rfl) (some 2) rfl (.string ⟨#[]⟩) (fun _ => by kernel_rfl) ?_
  refine pl_nil ?_
  refine au_then ?_
  refine wp_seq ?_
  refine wp_block ?_
  refine wp_seq ?_
  refine rg_lit ?_
  refine pl_load M (want_no rfl) (some 4) rfl 24 _ rfl 0 g1 0 (by kernel_rfl) 3 24 (ls [.bool (v), .int .u64 h, .int .u64 l]) rfl 3 (ls [.bool (v), .int .u64 h, .int .u64 l]) (fun j _ => by rw [Nat.zero_add]) (by decide) _ Tryz.underlying24 rfl inz24 ?_
  rcases Bool.eq_false_or_eq_true (mA v h l) with c0 | c0
  · skip
    refine pl_call M (want_no rfl) (some 5) rfl 36 #[.agg (av 3 (ls [.bool (v), .int .u64 h, .int .u64 l]))] (.bool true) (fun _ => by kernel_rfl) (fun w M => call_val (c_mayAddr v h l w M.laid) (congrArg Value.bool c0)) ?_
    intro u2 M
    refine pl_val (want_no rfl) (some 6) rfl (.bool false) (fun _ => by kernel_rfl) ?_
    refine pl_val (want_no rfl) (some 3) rfl (.bool false) (fun _ => by kernel_rfl) ?_
    refine pl_nil ?_
    refine au_then ?_
    refine wp_cond_false (by kernel_rfl) ?_
    refine wp_seq ?_
    refine rg_lit ?_
    refine pl_val (want_no rfl) (some 8) rfl (.pointer (some ⟨g1, 0, none⟩)) (fun _ => by kernel_rfl) ?_
    rcases Bool.eq_false_or_eq_true (v) with c1 | c1
    · skip
      refine pl_cell M (want_no rfl) (some 9) rfl 4 _ rfl g1 0 (by kernel_rfl) (.bool true) (fun _ => by kernel_rfl) (fun w M => M.cell 0 rfl (by decide) (congrArg Value.bool c1)) ?_
      refine pl_val (want_no rfl) (some 7) rfl (.bool true) (fun _ => by kernel_rfl) ?_
      refine pl_nil ?_
      refine au_then ?_
      refine wp_cond_true (by kernel_rfl) ?_
      refine wp_seq ?_
      refine rg_lit ?_
      refine pl_load M (want_no rfl) (some 10) rfl 24 _ rfl 0 g1 0 (by kernel_rfl) 3 24 (ls [.bool (v), .int .u64 h, .int .u64 l]) rfl 3 (ls [.bool (v), .int .u64 h, .int .u64 l]) (fun j _ => by rw [Nat.zero_add]) (by decide) _ Tryz.underlying24 rfl inz24 ?_
      refine pl_call M (want_no rfl) (some 11) rfl 50 #[.agg (av 3 (ls [.bool (v), .int .u64 h, .int .u64 l]))] (.string (tx6 h l)) (fun _ => by kernel_rfl) (fun w M => c_text6 v h l w M.laid) ?_
      intro u3 M
      refine pl_val (want_no rfl) (some 2) rfl (.string (tx6 h l)) (fun _ => by kernel_rfl) ?_
      refine pl_nil ?_
      refine au_then ?_
      refine wp_ret ?_
      refine au_block_ret ?_
      refine au_then_ret ?_
      have e0 : (txt v h l) = (tx6 h l) := by unfold txt; rw [if_pos c0, if_pos c1]
      exact bodyPost_ret (v := .string (tx6 h l)) (results_tmp1 Tryz.results22 _ _ _ (by kernel_rfl)) (by kernel_rfl) ⟨by rw [e0], below_grown M.old⟩
    · skip
      refine pl_cell M (want_no rfl) (some 9) rfl 4 _ rfl g1 0 (by kernel_rfl) (.bool false) (fun _ => by kernel_rfl) (fun w M => M.cell 0 rfl (by decide) (congrArg Value.bool c1)) ?_
      refine pl_val (want_no rfl) (some 7) rfl (.bool false) (fun _ => by kernel_rfl) ?_
      refine pl_nil ?_
      refine au_then ?_
      refine wp_cond_false (by kernel_rfl) ?_
      refine wp_skip ?_
      refine au_block ?_
      refine au_then ?_
      refine wp_seq ?_
      refine rg_lit ?_
      refine pl_load M (want_no rfl) (some 12) rfl 24 _ rfl 0 g1 0 (by kernel_rfl) 3 24 (ls [.bool (v), .int .u64 h, .int .u64 l]) rfl 3 (ls [.bool (v), .int .u64 h, .int .u64 l]) (fun j _ => by rw [Nat.zero_add]) (by decide) _ Tryz.underlying24 rfl inz24 ?_
      refine pl_call M (want_no rfl) (some 13) rfl 51 #[.agg (av 3 (ls [.bool (v), .int .u64 h, .int .u64 l]))] (.string (tx4 l)) (fun _ => by kernel_rfl) (fun w M => c_text4 v h l w M.laid) ?_
      intro u3 M
      refine pl_val (want_no rfl) (some 2) rfl (.string (tx4 l)) (fun _ => by kernel_rfl) ?_
      refine pl_nil ?_
      refine au_then ?_
      refine wp_ret ?_
      have e0 : (txt v h l) = (tx4 l) := by unfold txt; rw [if_pos c0, if_neg (by rw [c1]; decide)]
      exact bodyPost_ret (v := .string (tx4 l)) (results_tmp1 Tryz.results22 _ _ _ (by kernel_rfl)) (by kernel_rfl) ⟨by rw [e0], below_grown M.old⟩
  · skip
    refine pl_call M (want_no rfl) (some 5) rfl 36 #[.agg (av 3 (ls [.bool (v), .int .u64 h, .int .u64 l]))] (.bool false) (fun _ => by kernel_rfl) (fun w M => call_val (c_mayAddr v h l w M.laid) (congrArg Value.bool c0)) ?_
    intro u2 M
    refine pl_val (want_no rfl) (some 6) rfl (.bool true) (fun _ => by kernel_rfl) ?_
    refine pl_val (want_no rfl) (some 3) rfl (.bool true) (fun _ => by kernel_rfl) ?_
    refine pl_nil ?_
    refine au_then ?_
    refine wp_cond_true (by kernel_rfl) ?_
    refine wp_seq ?_
    refine rg_lit ?_
    refine pl_val (want_no rfl) (some 2) rfl (.string ⟨#[]⟩) (fun _ => by kernel_rfl) ?_
    refine pl_nil ?_
    refine au_then ?_
    refine wp_ret ?_
    refine au_block_ret ?_
    refine au_then_ret ?_
    have e0 : (txt v h l) = ⟨#[]⟩ := by unfold txt; rw [if_neg (by rw [c0]; decide)]
    exact bodyPost_ret (v := .string ⟨#[]⟩) (results_tmp1 Tryz.results22 _ _ _ (by kernel_rfl)) (by kernel_rfl) ⟨by rw [e0], below_grown M.old⟩

theorem c_ItoaI (b : Int) (hb0 : 0 ≤ b) (hb1 : b ≤ 255) (w : World) (hL : Laid w) : Calls Tryz.prog 52 #[.int .i64 b] w fun r w' => r = .returned (.string (dcT b)) ∧ Below w.heap.size w w' := by
  obtain ⟨n, rfl⟩ := Int.eq_ofNat_of_zero_le hb0
  exact c_Itoa n (by omega) w hL
set_option maxRecDepth 100000 in
set_option maxHeartbeats 4000000 in
set_option linter.unusedSimpArgs false in
theorem c_PrefixText (v : Bool) (h l : Int) (b : Int) (hb0 : 0 ≤ b) (hb1 : b ≤ 255) (w : World) (hL : Laid w)  :
    Calls Tryz.prog 24 #[.agg (av 4 (ls [.bool (v), .int .u64 h, .int .u64 l, .int .u8 b]))] w fun r w' => r = .returned (.string (ptx v h l b)) ∧ Below w.heap.size w w' := by
  go_enter Tryz.func24, Tryz.ntmps24
  have M := Mem.start hL
  refine wp_seq ?_
  refine rg_lit ?_
  refine pl_new M (want_no rfl) (some 1) rfl (.cells (av 4 (ls [.bool (v), .int .u64 h, .int .u64 l, .int .u8 b])) 39) (fun _ => by kernel_rfl) ?_
  intro g1 u1 M
  replace M : Mem ⟨w, []⟩ [⟨g1, .cells (av 4 (ls [.bool (v), .int .u64 h, .int .u64 l, .int .u8 b])) 39⟩] u1 := M
  refine pl_val (want_no rfl) (some 2) rfl (.string ⟨#[]⟩) (fun _ => by kernel_rfl) ?_
  refine pl_nil ?_
  refine au_then ?_
  refine wp_seq ?_
  refine wp_seq ?_
  refine rg_lit ?_
  refine pl_load M (want_no rfl) (some 3) rfl 39 _ rfl 0 g1 0 (by kernel_rfl) 4 39 (ls [.bool (v), .int .u64 h, .int .u64 l, .int .u8 b]) rfl 4 (ls [.bool (v), .int .u64 h, .int .u64 l, .int .u8 b]) (fun j _ => by rw [Nat.zero_add]) (by decide) _ Tryz.underlying39 rfl inz39 ?_
  rcases Bool.eq_false_or_eq_true (mP v h l b) with c0 | c0
  · skip
    refine pl_call M (want_no rfl) (some 4) rfl 26 #[.agg (av 4 (ls [.bool (v), .int .u64 h, .int .u64 l, .int .u8 b]))] (.bool true) (fun _ => by kernel_rfl) (fun w M => call_val (c_MayPrefix v h l b (by omega) (by omega) w M.laid) (congrArg Value.bool c0)) ?_
    intro u2 M
    refine pl_val (want_no rfl) (some 5) rfl (.bool false) (fun _ => by kernel_rfl) ?_
    refine pl_nil ?_
    refine au_then ?_
    refine wp_cond_false (by kernel_rfl) ?_
    refine wp_skip ?_
    refine au_then ?_
    refine wp_seq ?_
    refine rg_tail M 9 (by kernel_rfl) (by kernel_rfl) ?_
    simp only [List.take_succ_cons, List.take_zero]
    refine k_val (want_no rfl) (some 6) rfl (.pointer (some ⟨g1, 0, none⟩)) (fun _ => by kernel_rfl) ?_
    refine k_load M (want_no rfl) (some 7) rfl 24 _ rfl 0 g1 0 (by kernel_rfl) 4 39 (ls [.bool (v), .int .u64 h, .int .u64 l, .int .u8 b]) rfl 3 (ls [.bool (v), .int .u64 h, .int .u64 l]) (part_ls _ 0 3 _ rfl) (by decide) _ Tryz.underlying24 rfl inz24 ?_
    refine k_call M (want_no rfl) (some 8) rfl 22 #[.agg (av 3 (ls [.bool (v), .int .u64 h, .int .u64 l]))] (.string (txt v h l)) (fun _ => by kernel_rfl) (fun w M => c_Text v h l w M.laid) ?_
    refine k_val (want_no rfl) (some 9) rfl (.string ((txt v h l) ++ (⟨#[47]⟩ : ByteArray))) (run_cat 9 9 _ _ rfl (txt v h l) ⟨#[47]⟩ (by kernel_rfl) (by kernel_rfl) (by have q0 := txt_le v h l; have q2 : (⟨#[47]⟩ : ByteArray).size = 1 := rfl; omega)) ?_
    refine k_val (want_no rfl) (some 10) rfl (.pointer (some ⟨g1, 3, none⟩)) (fun _ => by kernel_rfl) ?_
    refine k_cell M (want_no rfl) (some 11) rfl 5 _ rfl g1 3 (by kernel_rfl) (.int .u8 b) (fun _ => by kernel_rfl) (fun w M => M.cell 0 rfl (by decide) rfl) ?_
    refine k_val (want_no rfl) (some 12) rfl (.int .i64 b) (fun w => Eq.trans (b := .ok (.value (.int .i64 (IntKind.wrap .i64 b))) w) (by kernel_rfl) (by rw [wrap64 (by omega) (by omega)])) ?_
    refine k_call M (want_no rfl) (some 13) rfl 52 #[.int .i64 b] (.string (dcT b)) (fun _ => by kernel_rfl) (fun w M => c_ItoaI b (by omega) (by omega) w M.laid) ?_
    refine k_val (want_no rfl) (some 14) rfl (.string (((txt v h l) ++ (⟨#[47]⟩ : ByteArray)) ++ (dcT b))) (run_cat 9 9 _ _ rfl ((txt v h l) ++ (⟨#[47]⟩ : ByteArray)) (dcT b) (by kernel_rfl) (by kernel_rfl) (by have q0 := txt_le v h l; have q1 := dcT_size b; simp only [ByteArray.size_append]; have q2 : (⟨#[47]⟩ : ByteArray).size = 1 := rfl; omega)) ?_
    refine kl_nil ?_
    intro u3 M
    replace M : Mem ⟨w, []⟩ [⟨g1, .cells (av 4 (ls [.bool (v), .int .u64 h, .int .u64 l, .int .u8 b])) 39⟩] u3 := M
    refine pl_val (want_no rfl) (some 2) rfl (.string (((txt v h l) ++ (⟨#[47]⟩ : ByteArray)) ++ (dcT b))) (fun _ => by kernel_rfl) ?_
    refine pl_nil ?_
    refine au_then ?_
    refine wp_ret ?_
    have e0 : (ptx v h l b) = (((txt v h l) ++ (⟨#[47]⟩ : ByteArray)) ++ (dcT b)) := by unfold ptx; rw [if_pos c0]
    exact bodyPost_ret (v := .string (((txt v h l) ++ (⟨#[47]⟩ : ByteArray)) ++ (dcT b))) (results_tmp1 Tryz.results24 _ _ _ (by kernel_rfl)) (by kernel_rfl) ⟨by rw [e0], below_grown M.old⟩
  · skip
    refine pl_call M (want_no rfl) (some 4) rfl 26 #[.agg (av 4 (ls [.bool (v), .int .u64 h, .int .u64 l, .int .u8 b]))] (.bool false) (fun _ => by kernel_rfl) (fun w M => call_val (c_MayPrefix v h l b (by omega) (by omega) w M.laid) (congrArg Value.bool c0)) ?_
    intro u2 M
    refine pl_val (want_no rfl) (some 5) rfl (.bool true) (fun _ => by kernel_rfl) ?_
    refine pl_nil ?_
    refine au_then ?_
    refine wp_cond_true (by kernel_rfl) ?_
    refine wp_seq ?_
    refine rg_lit ?_
    refine pl_val (want_no rfl) (some 2) rfl (.string ⟨#[]⟩) (fun _ => by kernel_rfl) ?_
    refine pl_nil ?_
    refine au_then ?_
    refine wp_ret ?_
    refine au_then_ret ?_
    have e0 : (ptx v h l b) = ⟨#[]⟩ := by unfold ptx; rw [if_neg (by rw [c0]; decide)]
    exact bodyPost_ret (v := .string ⟨#[]⟩) (results_tmp1 Tryz.results24 _ _ _ (by kernel_rfl)) (by kernel_rfl) ⟨by rw [e0], below_grown M.old⟩


end Go.Proofs.YtndonmdgplojnaaGreatDoor

/- Texts that are read as addresses and prefixes: the walks of the program. -/
namespace Go.Proofs.YtndonmdgplojnaaGreatDoor
open Go.RowKit

def v16 (l : List Int) : List Value := l.map fun x => .int .u16 x
def tgi (l : List Int) (i : Nat) : Int := l.getD i 0
theorem v16_at (l : List Int) (i : Nat) (h : i < l.length) : (v16 l)[i]? = some (.int .u16 (tgi l i)) := by
  unfold v16 tgi
  simp [h]
theorem v16_len (l : List Int) : (v16 l).length = l.length := by simp [v16]
theorem v16_app (l : List Int) (x : Int) : v16 (l ++ [x]) = v16 l ++ [.int .u16 x] := by simp [v16]
/-- The numbers of the first j pieces. -/
def nl (b m : Int) (ps : List ByteArray) : Nat → Option (List Int)
  | 0 => some []
  | j + 1 => (nl b m ps j).bind fun l => (nmb b m (tg ps j)).map fun x => l ++ [x]
def nlv (b m : Int) (ps : List ByteArray) (j : Nat) : List Int := (nl b m ps j).getD []
def nbs (b m : Int) (s sep : ByteArray) : Option (List Int) := if s = (⟨#[]⟩ : ByteArray) then some [] else nl b m (spl s sep) (spl s sep).length
theorem nl_none {b m : Int} {ps : List ByteArray} {j : Nat} (h : nl b m ps j = none) (k : Nat) : nl b m ps (j + k) = none := by
  induction k with
  | zero => exact h
  | succ k ih =>
    show nl b m ps (j + k + 1) = none
    unfold nl
    rw [ih]
    rfl
theorem nl_bad {b m : Int} {s sep : ByteArray} {j : Nat} {l : List Int} (hs : ¬ s = (⟨#[]⟩ : ByteArray)) (hj : j < (spl s sep).length) (h : nl b m (spl s sep) j = some l) (hn : (nmb b m (tg (spl s sep) j)).isSome = false) : nbs b m s sep = none := by
  unfold nbs
  rw [if_neg hs]
  obtain ⟨k, hk⟩ : ∃ k, (spl s sep).length = j + 1 + k := ⟨(spl s sep).length - (j + 1), by omega⟩
  rw [hk]
  refine nl_none ?_ k
  unfold nl
  rw [h]
  cases hq : nmb b m (tg (spl s sep) j) with
  | none => simp
  | some x => rw [hq] at hn; cases hn
theorem nl_ok {b m : Int} {ps : List ByteArray} {j : Nat} {l : List Int} (h : nl b m ps j = some l) (hn : (nmb b m (tg ps j)).isSome = true) : nl b m ps (j + 1) = some (l ++ [(nmb b m (tg ps j)).getD 0]) := by
  unfold nl
  rw [h]
  cases hq : nmb b m (tg ps j) with
  | none => rw [hq] at hn; cases hn
  | some x => simp
/-- A slice of one's own, nil as long as it has none. -/
def TS (c : Ctx) (L : List Blk) (W : World) (tv : Value) (l : List Int) : Prop := (l = [] ∧ tv = .slice none 0 0 ∧ Mem c L W) ∨ ∃ g cap Z, tv = .slice (some ⟨g, 0, none⟩) l.length cap ∧ SB Z cap (v16 l) ∧ Mem c (L ++ [⟨g, Z⟩]) W
/-- What numbers answers. -/
def NumsPost (o : Option (List Int)) (w : World) (r : Ending) (w' : World) : Prop := (o = none ∧ r = .returned (.tuple #[.slice none 0 0, .bool false]) ∧ Below w.heap.size w w') ∨ ∃ l, o = some l ∧ ((l = [] ∧ r = .returned (.tuple #[.slice none 0 0, .bool true]) ∧ Below w.heap.size w w') ∨ (l ≠ [] ∧ ∃ g cap Z, r = .returned (.tuple #[.slice (some ⟨g, 0, none⟩) l.length cap, .bool true]) ∧ w.heap.size ≤ g ∧ w'.heap[g]? = some Z ∧ SB Z cap (v16 l) ∧ Below w.heap.size w w'))
theorem nl_len {b m : Int} {ps : List ByteArray} {j : Nat} {l : List Int} (h : nl b m ps j = some l) : l.length = j := by
  induction j generalizing l with
  | zero => cases h; rfl
  | succ j ih =>
    unfold nl at h
    cases hq : nl b m ps j with
    | none => rw [hq] at h; cases h
    | some l' =>
      rw [hq] at h
      simp only [Option.bind_some, Option.map_eq_some_iff] at h
      obtain ⟨x, _, rfl⟩ := h
      rw [List.length_append, ih hq]
      rfl
set_option maxRecDepth 100000 in
set_option maxHeartbeats 4000000 in
set_option linter.unusedSimpArgs false in
theorem c_nums10 (s sep : ByteArray) (hs : s.size ≤ 1000) (h1 : 1 ≤ sep.size) (w : World) (hL : Laid w)  :
    Calls Tryz.prog 89 #[.string s, .string sep, .int .i64 10, .int .i64 8] w fun r w' => NumsPost (nbs 10 255 s sep) w r w' := by
  go_enter Tryz.func89, Tryz.ntmps89
  have M := Mem.start hL
  have hsl := spl_le s sep h1
  have hlen : ∀ l : List Int, ∀ {j : Nat}, nl 10 255 (spl s sep) j = some l → j < (spl s sep).length → l.length < 1000000 := fun l j h hj => by have := nl_len h; omega
  refine wp_seq ?_
  refine rg_lit ?_
  refine pl_val (want_no rfl) (some 8) rfl (.slice none 0 0) (fun _ => by kernel_rfl) ?_
  refine pl_val (want_no rfl) (some 9) rfl (.bool false) (fun _ => by kernel_rfl) ?_
  refine pl_nil ?_
  refine au_then ?_
  refine wp_seq ?_
  refine wp_seq ?_
  refine rg_lit ?_
  refine pl_val (want_no rfl) (some 15) rfl (.string s) (fun _ => by kernel_rfl) ?_
  by_cases c0 : s = (⟨#[]⟩ : ByteArray)
  · skip
    refine pl_val (want_no rfl) (some 16) rfl (.bool true) (fun w => Eq.trans (b := .ok (.value (.bool (s.toList == (⟨#[]⟩ : ByteArray).toList))) w) (by kernel_rfl) (by rw [seq_pos c0])) ?_
    refine pl_nil ?_
    refine au_then ?_
    refine wp_cond_true (by kernel_rfl) ?_
    refine wp_seq ?_
    refine rg_lit ?_
    refine pl_val (want_no rfl) (some 8) rfl (.slice none 0 0) (fun _ => by kernel_rfl) ?_
    refine pl_val (want_no rfl) (some 9) rfl (.bool true) (fun _ => by kernel_rfl) ?_
    refine pl_nil ?_
    refine au_then ?_
    refine wp_ret ?_
    refine au_then_ret ?_
    exact bodyPost_ret (v := .tuple #[.slice none 0 0, .bool true]) (results_tmp2 Tryz.results89 _ _ _ _ (by kernel_rfl) (by kernel_rfl)) (by kernel_rfl) (.inr ⟨[], if_pos c0, .inl ⟨rfl, rfl, below_grown M.old⟩⟩)
  · skip
    refine pl_val (want_no rfl) (some 16) rfl (.bool false) (fun w => Eq.trans (b := .ok (.value (.bool (s.toList == (⟨#[]⟩ : ByteArray).toList))) w) (by kernel_rfl) (by rw [seq_neg c0])) ?_
    refine pl_nil ?_
    refine au_then ?_
    refine wp_cond_false (by kernel_rfl) ?_
    refine wp_skip ?_
    refine au_then ?_
    refine wp_seq ?_
    refine rg_lit ?_
    refine pl_val (want_no rfl) (some 10) rfl (.slice none 0 0) (fun _ => by kernel_rfl) ?_
    refine pl_nil ?_
    refine au_then ?_
    refine wp_seq ?_
    refine wp_seq ?_
    refine rg_lit ?_
    refine pl_val (want_no rfl) (some 17) rfl (.string s) (fun _ => by kernel_rfl) ?_
    refine pl_val (want_no rfl) (some 18) rfl (.string sep) (fun _ => by kernel_rfl) ?_
    refine pl_calln M (want_no rfl) (some 19) rfl 107 #[.string s, .string sep] (fun g1 => .slice (some ⟨g1, 0, none⟩) (spl s sep).length (spl s sep).length) (.cells (av (spl s sep).length (fS (spl s sep))) 9) (fun _ => by kernel_rfl) (fun w M => c_Split s sep (by omega) h1 w M.laid) ?_
    intro g1 u1 M
    replace M : Mem ⟨w, []⟩ [⟨g1, .cells (av (spl s sep).length (fS (spl s sep))) 9⟩] u1 := M
    refine pl_val (want_no rfl) (some 20) rfl (.int .i64 (((spl s sep).length : Nat) : Int)) (fun _ => by kernel_rfl) ?_
    refine pl_val (want_no rfl) (some 21) rfl (.int .i64 0) (fun _ => by kernel_rfl) ?_
    refine pl_nil ?_
    refine au_then ?_
    refine wp_block ?_
    refine au_loop (fun j a w' => ∃ (v1 : Nat → Value) (tv : Value), a = ⟨#[.string s, .string sep, .int .i64 10, .int .i64 8, undef, undef, undef, undef, v1 8, v1 9, tv, undef, v1 12, v1 13, v1 14, .string s, .bool false, .string s, .string sep, .slice (some ⟨g1, 0, none⟩) (spl s sep).length (spl s sep).length, .int .i64 (((spl s sep).length : Nat) : Int), .int .i64 (j : Int), v1 22, v1 23, v1 24, v1 25, v1 26, v1 27, v1 28, v1 29, v1 30, v1 31, v1 32, v1 33, v1 34, v1 35, v1 36, v1 37, v1 38, undef], []⟩ ∧ nl 10 255 (spl s sep) j = some (nlv 10 255 (spl s sep) j) ∧ TS ⟨w, []⟩ [⟨g1, .cells (av (spl s sep).length (fS (spl s sep))) 9⟩] w' tv (nlv 10 255 (spl s sep) j)) (spl s sep).length ⟨fun k_ => ([.slice none 0 0, .bool false, undef, undef, undef, undef, undef, undef, undef, undef, undef, undef, undef, undef, undef, undef, undef, undef, undef, undef, undef, undef, undef, undef, undef, undef, undef, undef, undef, undef, undef] : List Value).getD (k_ - 8) undef, _, by kernel_rfl, rfl, .inl ⟨rfl, rfl, M⟩⟩ ?_ ?_
    · intro j a u0 hj hI
      obtain ⟨v1, tv, rfl, hx, hT⟩ := hI
      rcases hT with ⟨hnil, rfl, M⟩ | ⟨g9, cap9, Z9, rfl, hZ9, M⟩
      · skip
        refine wp_seq ?_
        refine rg_lit ?_
        refine pl_val (want_no rfl) (some 22) rfl (.bool true) (fun w => Eq.trans (b := .ok (.value (.bool (decide ((j : Int) < (((spl s sep).length : Nat) : Int))))) w) (by kernel_rfl) (by rw [decide_eq_true (by omega)])) ?_
        refine pl_nil ?_
        refine au_then ?_
        refine wp_seq ?_
        refine wp_cond_true (by kernel_rfl) ?_
        refine wp_skip ?_
        refine au_then ?_
        refine wp_seq ?_
        refine wp_block ?_
        refine wp_seq ?_
        refine rg_lit ?_
        refine pl_val (want_no rfl) (some 23) rfl (.pointer (some ⟨g1, j, none⟩)) (run_ix0 72 9 Tryz.underlying72 inz9 _ _ rfl g1 ((spl s sep).length) ((spl s sep).length) (by kernel_rfl) .i64 j (by kernel_rfl) (by omega)) ?_
        refine pl_cell M (want_no rfl) (some 24) rfl 9 _ rfl g1 j (by kernel_rfl) (.string (tg (spl s sep) j)) (fun _ => by kernel_rfl) (fun w M => M.cell 0 rfl (by omega) rfl) ?_
        refine pl_val (want_no rfl) (some 12) rfl (.string (tg (spl s sep) j)) (fun _ => by kernel_rfl) ?_
        refine pl_nil ?_
        refine au_then ?_
        refine wp_seq ?_
        refine rg_lit ?_
        refine pl_val (want_no rfl) (some 26) rfl (.string (tg (spl s sep) j)) (fun _ => by kernel_rfl) ?_
        refine pl_val (want_no rfl) (some 27) rfl (.int .i64 10) (fun _ => by kernel_rfl) ?_
        refine pl_val (want_no rfl) (some 28) rfl (.int .i64 8) (fun _ => by kernel_rfl) ?_
        rcases Bool.eq_false_or_eq_true ((nmb 10 255 (tg (spl s sep) j)).isSome) with c2 | c2
        · skip
          refine pl_call M (want_no rfl) (some 29) rfl 47 #[.string (tg (spl s sep) j), .int .i64 10, .int .i64 8] (.tuple #[.int .u16 ((nmb 10 255 (tg (spl s sep) j)).getD 0), .bool true]) (fun _ => by kernel_rfl) (fun w M => call_val (c_number10 (tg (spl s sep) j) w M.laid) (by rw [c2])) ?_
          intro u2 M
          refine pl_val (want_no rfl) (some 25) rfl (.tuple #[.int .u16 ((nmb 10 255 (tg (spl s sep) j)).getD 0), .bool true]) (fun _ => by kernel_rfl) ?_
          refine pl_val (want_no rfl) (some 30) rfl (.int .u16 ((nmb 10 255 (tg (spl s sep) j)).getD 0)) (fun _ => by kernel_rfl) ?_
          refine pl_val (want_no rfl) (some 31) rfl (.bool true) (fun _ => by kernel_rfl) ?_
          refine pl_val (want_no rfl) (some 13) rfl (.int .u16 ((nmb 10 255 (tg (spl s sep) j)).getD 0)) (fun _ => by kernel_rfl) ?_
          refine pl_val (want_no rfl) (some 14) rfl (.bool true) (fun _ => by kernel_rfl) ?_
          refine pl_nil ?_
          refine au_then ?_
          refine wp_seq ?_
          refine wp_seq ?_
          refine rg_lit ?_
          refine pl_val (want_no rfl) (some 32) rfl (.bool true) (fun _ => by kernel_rfl) ?_
          refine pl_val (want_no rfl) (some 33) rfl (.bool false) (fun _ => by kernel_rfl) ?_
          refine pl_nil ?_
          refine au_then ?_
          refine wp_cond_false (by kernel_rfl) ?_
          refine wp_skip ?_
          refine au_then ?_
          refine rg_lit ?_
          refine pl_val (want_no rfl) (some 34) rfl (.slice none 0 0) (fun _ => by kernel_rfl) ?_
          refine pl_val (want_no rfl) (some 35) rfl (.int .u16 ((nmb 10 255 (tg (spl s sep) j)).getD 0)) (fun _ => by kernel_rfl) ?_
          refine pl_mk M (want_no rfl) (some 36) rfl (fun g2 => .slice (some ⟨g2, 0, none⟩) 1 1) (.cells (av 1 (fun _ => .int .u16 ((nmb 10 255 (tg (spl s sep) j)).getD 0))) 32) (fun _ => by kernel_rfl) ?_
          intro g2 u3 M
          replace M : Mem ⟨w, []⟩ [⟨g1, .cells (av (spl s sep).length (fS (spl s sep))) 9⟩, ⟨g2, .cells (av 1 (fun _ => .int .u16 ((nmb 10 255 (tg (spl s sep) j)).getD 0))) 32⟩] u3 := M
          refine pl_app0I M (want_no rfl) (some 37) rfl 99 99 32 (.int .u16 0) Tryz.underlying99 info32 rfl 1 g2 32 (.int .u16 ((nmb 10 255 (tg (spl s sep) j)).getD 0)) rfl (fun _ => by kernel_rfl) ?_
          intro g8 cap8 Z8 u4 hZ8 M
          replace M : Mem ⟨w, []⟩ [⟨g1, .cells (av (spl s sep).length (fS (spl s sep))) 9⟩, ⟨g2, .cells (av 1 (fun _ => .int .u16 ((nmb 10 255 (tg (spl s sep) j)).getD 0))) 32⟩, ⟨g8, Z8⟩] u4 := M
          refine pl_val (want_no rfl) (some 10) rfl (.slice (some ⟨g8, 0, none⟩) 1 cap8) (fun _ => by kernel_rfl) ?_
          refine pl_nil ?_
          refine au_block ?_
          refine au_then ?_
          refine rg_lit ?_
          refine pl_val (want_no rfl) (some 38) rfl (.int .i64 ((j + 1 : Nat) : Int)) (fun w => Eq.trans (b := .ok (.value (.int .i64 (IntKind.wrap .i64 ((j : Int) + 1)))) w) (by kernel_rfl) (by rw [wrap64 (by omega) (by omega)]; congr 3)) ?_
          refine pl_val (want_no rfl) (some 21) rfl (.int .i64 ((j + 1 : Nat) : Int)) (fun _ => by kernel_rfl) ?_
          refine pl_nil ?_
          refine au_then ?_
          have hy := nl_ok hx c2
          have hz : nlv 10 255 (spl s sep) (j + 1) = (nlv 10 255 (spl s sep) j) ++ [(nmb 10 255 (tg (spl s sep) j)).getD 0] := by unfold nlv; rw [hy]; rfl
          exact ⟨fun k_ => ([v1 8, v1 9, undef, undef, .string (tg (spl s sep) j), .int .u16 ((nmb 10 255 (tg (spl s sep) j)).getD 0), .bool true, undef, undef, undef, undef, undef, undef, undef, .bool true, .pointer (some ⟨g1, j, none⟩), .string (tg (spl s sep) j), .tuple #[.int .u16 ((nmb 10 255 (tg (spl s sep) j)).getD 0), .bool true], .string (tg (spl s sep) j), .int .i64 10, .int .i64 8, .tuple #[.int .u16 ((nmb 10 255 (tg (spl s sep) j)).getD 0), .bool true], .int .u16 ((nmb 10 255 (tg (spl s sep) j)).getD 0), .bool true, .bool true, .bool false, .slice none 0 0, .int .u16 ((nmb 10 255 (tg (spl s sep) j)).getD 0), .slice (some ⟨g2, 0, none⟩) 1 1, .slice (some ⟨g8, 0, none⟩) 1 cap8, .int .i64 ((j + 1 : Nat) : Int)] : List Value).getD (k_ - 8) undef, .slice (some ⟨g8, 0, none⟩) 1 cap8, by kernel_rfl, by rw [hz]; exact hy, .inr ⟨g8, cap8, Z8, by rw [hz, hnil]; rfl, by rw [hz, hnil]; exact hZ8, M.drop (.cons_cons _ (.cons _ (.cons_cons _ .slnil)))⟩⟩
        · skip
          refine pl_call M (want_no rfl) (some 29) rfl 47 #[.string (tg (spl s sep) j), .int .i64 10, .int .i64 8] (.tuple #[.int .u16 ((nmb 10 255 (tg (spl s sep) j)).getD 0), .bool false]) (fun _ => by kernel_rfl) (fun w M => call_val (c_number10 (tg (spl s sep) j) w M.laid) (by rw [c2])) ?_
          intro u2 M
          refine pl_val (want_no rfl) (some 25) rfl (.tuple #[.int .u16 ((nmb 10 255 (tg (spl s sep) j)).getD 0), .bool false]) (fun _ => by kernel_rfl) ?_
          refine pl_val (want_no rfl) (some 30) rfl (.int .u16 ((nmb 10 255 (tg (spl s sep) j)).getD 0)) (fun _ => by kernel_rfl) ?_
          refine pl_val (want_no rfl) (some 31) rfl (.bool false) (fun _ => by kernel_rfl) ?_
          refine pl_val (want_no rfl) (some 13) rfl (.int .u16 ((nmb 10 255 (tg (spl s sep) j)).getD 0)) (fun _ => by kernel_rfl) ?_
          refine pl_val (want_no rfl) (some 14) rfl (.bool false) (fun _ => by kernel_rfl) ?_
          refine pl_nil ?_
          refine au_then ?_
          refine wp_seq ?_
          refine wp_seq ?_
          refine rg_lit ?_
          refine pl_val (want_no rfl) (some 32) rfl (.bool false) (fun _ => by kernel_rfl) ?_
          refine pl_val (want_no rfl) (some 33) rfl (.bool true) (fun _ => by kernel_rfl) ?_
          refine pl_nil ?_
          refine au_then ?_
          refine wp_cond_true (by kernel_rfl) ?_
          refine wp_seq ?_
          refine rg_lit ?_
          refine pl_val (want_no rfl) (some 8) rfl (.slice none 0 0) (fun _ => by kernel_rfl) ?_
          refine pl_val (want_no rfl) (some 9) rfl (.bool false) (fun _ => by kernel_rfl) ?_
          refine pl_nil ?_
          refine au_then ?_
          refine wp_ret ?_
          refine au_then_ret ?_
          refine au_block_ret ?_
          refine au_then_ret ?_
          refine au_then_ret ?_
          refine au_block_ret ?_
          refine au_then_ret ?_
          exact bodyPost_ret (v := .tuple #[.slice none 0 0, .bool false]) (results_tmp2 Tryz.results89 _ _ _ _ (by kernel_rfl) (by kernel_rfl)) (by kernel_rfl) (.inl ⟨nl_bad c0 hj hx c2, rfl, below_grown M.old⟩)
      · skip
        refine wp_seq ?_
        refine rg_lit ?_
        refine pl_val (want_no rfl) (some 22) rfl (.bool true) (fun w => Eq.trans (b := .ok (.value (.bool (decide ((j : Int) < (((spl s sep).length : Nat) : Int))))) w) (by kernel_rfl) (by rw [decide_eq_true (by omega)])) ?_
        refine pl_nil ?_
        refine au_then ?_
        refine wp_seq ?_
        refine wp_cond_true (by kernel_rfl) ?_
        refine wp_skip ?_
        refine au_then ?_
        refine wp_seq ?_
        refine wp_block ?_
        refine wp_seq ?_
        refine rg_lit ?_
        refine pl_val (want_no rfl) (some 23) rfl (.pointer (some ⟨g1, j, none⟩)) (run_ix0 72 9 Tryz.underlying72 inz9 _ _ rfl g1 ((spl s sep).length) ((spl s sep).length) (by kernel_rfl) .i64 j (by kernel_rfl) (by omega)) ?_
        refine pl_cell M (want_no rfl) (some 24) rfl 9 _ rfl g1 j (by kernel_rfl) (.string (tg (spl s sep) j)) (fun _ => by kernel_rfl) (fun w M => M.cell 0 rfl (by omega) rfl) ?_
        refine pl_val (want_no rfl) (some 12) rfl (.string (tg (spl s sep) j)) (fun _ => by kernel_rfl) ?_
        refine pl_nil ?_
        refine au_then ?_
        refine wp_seq ?_
        refine rg_lit ?_
        refine pl_val (want_no rfl) (some 26) rfl (.string (tg (spl s sep) j)) (fun _ => by kernel_rfl) ?_
        refine pl_val (want_no rfl) (some 27) rfl (.int .i64 10) (fun _ => by kernel_rfl) ?_
        refine pl_val (want_no rfl) (some 28) rfl (.int .i64 8) (fun _ => by kernel_rfl) ?_
        rcases Bool.eq_false_or_eq_true ((nmb 10 255 (tg (spl s sep) j)).isSome) with c2 | c2
        · skip
          refine pl_call M (want_no rfl) (some 29) rfl 47 #[.string (tg (spl s sep) j), .int .i64 10, .int .i64 8] (.tuple #[.int .u16 ((nmb 10 255 (tg (spl s sep) j)).getD 0), .bool true]) (fun _ => by kernel_rfl) (fun w M => call_val (c_number10 (tg (spl s sep) j) w M.laid) (by rw [c2])) ?_
          intro u2 M
          refine pl_val (want_no rfl) (some 25) rfl (.tuple #[.int .u16 ((nmb 10 255 (tg (spl s sep) j)).getD 0), .bool true]) (fun _ => by kernel_rfl) ?_
          refine pl_val (want_no rfl) (some 30) rfl (.int .u16 ((nmb 10 255 (tg (spl s sep) j)).getD 0)) (fun _ => by kernel_rfl) ?_
          refine pl_val (want_no rfl) (some 31) rfl (.bool true) (fun _ => by kernel_rfl) ?_
          refine pl_val (want_no rfl) (some 13) rfl (.int .u16 ((nmb 10 255 (tg (spl s sep) j)).getD 0)) (fun _ => by kernel_rfl) ?_
          refine pl_val (want_no rfl) (some 14) rfl (.bool true) (fun _ => by kernel_rfl) ?_
          refine pl_nil ?_
          refine au_then ?_
          refine wp_seq ?_
          refine wp_seq ?_
          refine rg_lit ?_
          refine pl_val (want_no rfl) (some 32) rfl (.bool true) (fun _ => by kernel_rfl) ?_
          refine pl_val (want_no rfl) (some 33) rfl (.bool false) (fun _ => by kernel_rfl) ?_
          refine pl_nil ?_
          refine au_then ?_
          refine wp_cond_false (by kernel_rfl) ?_
          refine wp_skip ?_
          refine au_then ?_
          refine rg_lit ?_
          refine pl_val (want_no rfl) (some 34) rfl (.slice (some ⟨g9, 0, none⟩) (nlv 10 255 (spl s sep) j).length cap9) (fun _ => by kernel_rfl) ?_
          refine pl_val (want_no rfl) (some 35) rfl (.int .u16 ((nmb 10 255 (tg (spl s sep) j)).getD 0)) (fun _ => by kernel_rfl) ?_
          refine pl_mk M (want_no rfl) (some 36) rfl (fun g2 => .slice (some ⟨g2, 0, none⟩) 1 1) (.cells (av 1 (fun _ => .int .u16 ((nmb 10 255 (tg (spl s sep) j)).getD 0))) 32) (fun _ => by kernel_rfl) ?_
          intro g2 u3 M
          replace M : Mem ⟨w, []⟩ [⟨g1, .cells (av (spl s sep).length (fS (spl s sep))) 9⟩, ⟨g9, Z9⟩, ⟨g2, .cells (av 1 (fun _ => .int .u16 ((nmb 10 255 (tg (spl s sep) j)).getD 0))) 32⟩] u3 := M
          refine pl_appI M (want_no rfl) (some 37) rfl 99 99 32 (.int .u16 0) Tryz.underlying99 info32 rfl 1 g9 ((nlv 10 255 (spl s sep) j).length) cap9 Z9 (v16 (nlv 10 255 (spl s sep) j)) rfl hZ9 (v16_len _) (hlen _ hx hj) 2 g2 32 (.int .u16 ((nmb 10 255 (tg (spl s sep) j)).getD 0)) rfl rfl (fun _ => by kernel_rfl) ?_
          intro g8 cap8 Z8 u4 hZ8 M
          replace M : Mem ⟨w, []⟩ [⟨g1, .cells (av (spl s sep).length (fS (spl s sep))) 9⟩, ⟨g2, .cells (av 1 (fun _ => .int .u16 ((nmb 10 255 (tg (spl s sep) j)).getD 0))) 32⟩, ⟨g8, Z8⟩] u4 := M
          refine pl_val (want_no rfl) (some 10) rfl (.slice (some ⟨g8, 0, none⟩) ((nlv 10 255 (spl s sep) j).length + 1) cap8) (fun _ => by kernel_rfl) ?_
          refine pl_nil ?_
          refine au_block ?_
          refine au_then ?_
          refine rg_lit ?_
          refine pl_val (want_no rfl) (some 38) rfl (.int .i64 ((j + 1 : Nat) : Int)) (fun w => Eq.trans (b := .ok (.value (.int .i64 (IntKind.wrap .i64 ((j : Int) + 1)))) w) (by kernel_rfl) (by rw [wrap64 (by omega) (by omega)]; congr 3)) ?_
          refine pl_val (want_no rfl) (some 21) rfl (.int .i64 ((j + 1 : Nat) : Int)) (fun _ => by kernel_rfl) ?_
          refine pl_nil ?_
          refine au_then ?_
          have hy := nl_ok hx c2
          have hz : nlv 10 255 (spl s sep) (j + 1) = (nlv 10 255 (spl s sep) j) ++ [(nmb 10 255 (tg (spl s sep) j)).getD 0] := by unfold nlv; rw [hy]; rfl
          exact ⟨fun k_ => ([v1 8, v1 9, undef, undef, .string (tg (spl s sep) j), .int .u16 ((nmb 10 255 (tg (spl s sep) j)).getD 0), .bool true, undef, undef, undef, undef, undef, undef, undef, .bool true, .pointer (some ⟨g1, j, none⟩), .string (tg (spl s sep) j), .tuple #[.int .u16 ((nmb 10 255 (tg (spl s sep) j)).getD 0), .bool true], .string (tg (spl s sep) j), .int .i64 10, .int .i64 8, .tuple #[.int .u16 ((nmb 10 255 (tg (spl s sep) j)).getD 0), .bool true], .int .u16 ((nmb 10 255 (tg (spl s sep) j)).getD 0), .bool true, .bool true, .bool false, .slice (some ⟨g9, 0, none⟩) (nlv 10 255 (spl s sep) j).length cap9, .int .u16 ((nmb 10 255 (tg (spl s sep) j)).getD 0), .slice (some ⟨g2, 0, none⟩) 1 1, .slice (some ⟨g8, 0, none⟩) ((nlv 10 255 (spl s sep) j).length + 1) cap8, .int .i64 ((j + 1 : Nat) : Int)] : List Value).getD (k_ - 8) undef, .slice (some ⟨g8, 0, none⟩) ((nlv 10 255 (spl s sep) j).length + 1) cap8, by kernel_rfl, by rw [hz]; exact hy, .inr ⟨g8, cap8, Z8, by rw [hz, List.length_append]; rfl, by rw [hz, v16_app]; exact hZ8, M.drop (.cons_cons _ (.cons _ (.cons_cons _ .slnil)))⟩⟩
        · skip
          refine pl_call M (want_no rfl) (some 29) rfl 47 #[.string (tg (spl s sep) j), .int .i64 10, .int .i64 8] (.tuple #[.int .u16 ((nmb 10 255 (tg (spl s sep) j)).getD 0), .bool false]) (fun _ => by kernel_rfl) (fun w M => call_val (c_number10 (tg (spl s sep) j) w M.laid) (by rw [c2])) ?_
          intro u2 M
          refine pl_val (want_no rfl) (some 25) rfl (.tuple #[.int .u16 ((nmb 10 255 (tg (spl s sep) j)).getD 0), .bool false]) (fun _ => by kernel_rfl) ?_
          refine pl_val (want_no rfl) (some 30) rfl (.int .u16 ((nmb 10 255 (tg (spl s sep) j)).getD 0)) (fun _ => by kernel_rfl) ?_
          refine pl_val (want_no rfl) (some 31) rfl (.bool false) (fun _ => by kernel_rfl) ?_
          refine pl_val (want_no rfl) (some 13) rfl (.int .u16 ((nmb 10 255 (tg (spl s sep) j)).getD 0)) (fun _ => by kernel_rfl) ?_
          refine pl_val (want_no rfl) (some 14) rfl (.bool false) (fun _ => by kernel_rfl) ?_
          refine pl_nil ?_
          refine au_then ?_
          refine wp_seq ?_
          refine wp_seq ?_
          refine rg_lit ?_
          refine pl_val (want_no rfl) (some 32) rfl (.bool false) (fun _ => by kernel_rfl) ?_
          refine pl_val (want_no rfl) (some 33) rfl (.bool true) (fun _ => by kernel_rfl) ?_
          refine pl_nil ?_
          refine au_then ?_
          refine wp_cond_true (by kernel_rfl) ?_
          refine wp_seq ?_
          refine rg_lit ?_
          refine pl_val (want_no rfl) (some 8) rfl (.slice none 0 0) (fun _ => by kernel_rfl) ?_
          refine pl_val (want_no rfl) (some 9) rfl (.bool false) (fun _ => by kernel_rfl) ?_
          refine pl_nil ?_
          refine au_then ?_
          refine wp_ret ?_
          refine au_then_ret ?_
          refine au_block_ret ?_
          refine au_then_ret ?_
          refine au_then_ret ?_
          refine au_block_ret ?_
          refine au_then_ret ?_
          exact bodyPost_ret (v := .tuple #[.slice none 0 0, .bool false]) (results_tmp2 Tryz.results89 _ _ _ _ (by kernel_rfl) (by kernel_rfl)) (by kernel_rfl) (.inl ⟨nl_bad c0 hj hx c2, rfl, below_grown M.old⟩)
    · intro a u0 hI
      obtain ⟨v1, tv, rfl, hx, hT⟩ := hI
      rcases hT with ⟨hnil, rfl, M⟩ | ⟨g9, cap9, Z9, rfl, hZ9, M⟩
      · skip
        refine wp_seq ?_
        refine rg_lit ?_
        refine pl_val (want_no rfl) (some 22) rfl (.bool false) (fun w => Eq.trans (b := .ok (.value (.bool (decide ((((spl s sep).length : Nat) : Int) < (((spl s sep).length : Nat) : Int))))) w) (by kernel_rfl) (by rw [decide_eq_false (by omega)])) ?_
        refine pl_nil ?_
        refine au_then ?_
        refine wp_seq ?_
        refine wp_cond_false (by kernel_rfl) ?_
        refine wp_exit ?_
        refine au_then_exit ?_
        refine au_then_exit ?_
        refine au_block_exit ?_
        refine au_then ?_
        refine wp_seq ?_
        refine rg_lit ?_
        refine pl_val (want_no rfl) (some 39) rfl (.slice none 0 0) (fun _ => by kernel_rfl) ?_
        refine pl_val (want_no rfl) (some 8) rfl (.slice none 0 0) (fun _ => by kernel_rfl) ?_
        refine pl_val (want_no rfl) (some 9) rfl (.bool true) (fun _ => by kernel_rfl) ?_
        refine pl_nil ?_
        refine au_then ?_
        refine wp_ret ?_
        exact bodyPost_ret (v := .tuple #[.slice none 0 0, .bool true]) (results_tmp2 Tryz.results89 _ _ _ _ (by kernel_rfl) (by kernel_rfl)) (by kernel_rfl) (.inr ⟨_, (show nbs 10 255 s sep = some (nlv 10 255 (spl s sep) ((spl s sep).length)) by unfold nbs; rw [if_neg c0]; exact hx), .inl ⟨hnil, rfl, below_grown M.old⟩⟩)
      · skip
        refine wp_seq ?_
        refine rg_lit ?_
        refine pl_val (want_no rfl) (some 22) rfl (.bool false) (fun w => Eq.trans (b := .ok (.value (.bool (decide ((((spl s sep).length : Nat) : Int) < (((spl s sep).length : Nat) : Int))))) w) (by kernel_rfl) (by rw [decide_eq_false (by omega)])) ?_
        refine pl_nil ?_
        refine au_then ?_
        refine wp_seq ?_
        refine wp_cond_false (by kernel_rfl) ?_
        refine wp_exit ?_
        refine au_then_exit ?_
        refine au_then_exit ?_
        refine au_block_exit ?_
        refine au_then ?_
        refine wp_seq ?_
        refine rg_lit ?_
        refine pl_val (want_no rfl) (some 39) rfl (.slice (some ⟨g9, 0, none⟩) (nlv 10 255 (spl s sep) ((spl s sep).length)).length cap9) (fun _ => by kernel_rfl) ?_
        refine pl_val (want_no rfl) (some 8) rfl (.slice (some ⟨g9, 0, none⟩) (nlv 10 255 (spl s sep) ((spl s sep).length)).length cap9) (fun _ => by kernel_rfl) ?_
        refine pl_val (want_no rfl) (some 9) rfl (.bool true) (fun _ => by kernel_rfl) ?_
        refine pl_nil ?_
        refine au_then ?_
        refine wp_ret ?_
        exact bodyPost_ret (v := .tuple #[.slice (some ⟨g9, 0, none⟩) (nlv 10 255 (spl s sep) ((spl s sep).length)).length cap9, .bool true]) (results_tmp2 Tryz.results89 _ _ _ _ (by kernel_rfl) (by kernel_rfl)) (by kernel_rfl) (.inr ⟨_, (show nbs 10 255 s sep = some (nlv 10 255 (spl s sep) ((spl s sep).length)) by unfold nbs; rw [if_neg c0]; exact hx), .inr ⟨fun e => by have h2 := nl_len hx; rw [e] at h2; have h3 := spl_len s sep h1; simp at h2; omega, g9, cap9, Z9, rfl, M.geAt 1 rfl, M.get 1 rfl, hZ9, below_grown M.old⟩⟩)

set_option maxRecDepth 100000 in
set_option maxHeartbeats 4000000 in
set_option linter.unusedSimpArgs false in
theorem c_nums16 (s sep : ByteArray) (hs : s.size ≤ 1000) (h1 : 1 ≤ sep.size) (w : World) (hL : Laid w)  :
    Calls Tryz.prog 89 #[.string s, .string sep, .int .i64 16, .int .i64 16] w fun r w' => NumsPost (nbs 16 65535 s sep) w r w' := by
  go_enter Tryz.func89, Tryz.ntmps89
  have M := Mem.start hL
  have hsl := spl_le s sep h1
  have hlen : ∀ l : List Int, ∀ {j : Nat}, nl 16 65535 (spl s sep) j = some l → j < (spl s sep).length → l.length < 1000000 := fun l j h hj => by have := nl_len h; omega
  refine wp_seq ?_
  refine rg_lit ?_
  refine pl_val (want_no rfl) (some 8) rfl (.slice none 0 0) (fun _ => by kernel_rfl) ?_
  refine pl_val (want_no rfl) (some 9) rfl (.bool false) (fun _ => by kernel_rfl) ?_
  refine pl_nil ?_
  refine au_then ?_
  refine wp_seq ?_
  refine wp_seq ?_
  refine rg_lit ?_
  refine pl_val (want_no rfl) (some 15) rfl (.string s) (fun _ => by kernel_rfl) ?_
  by_cases c0 : s = (⟨#[]⟩ : ByteArray)
  · skip
    refine pl_val (want_no rfl) (some 16) rfl (.bool true) (fun w => Eq.trans (b := .ok (.value (.bool (s.toList == (⟨#[]⟩ : ByteArray).toList))) w) (by kernel_rfl) (by rw [seq_pos c0])) ?_
    refine pl_nil ?_
    refine au_then ?_
    refine wp_cond_true (by kernel_rfl) ?_
    refine wp_seq ?_
    refine rg_lit ?_
    refine pl_val (want_no rfl) (some 8) rfl (.slice none 0 0) (fun _ => by kernel_rfl) ?_
    refine pl_val (want_no rfl) (some 9) rfl (.bool true) (fun _ => by kernel_rfl) ?_
    refine pl_nil ?_
    refine au_then ?_
    refine wp_ret ?_
    refine au_then_ret ?_
    exact bodyPost_ret (v := .tuple #[.slice none 0 0, .bool true]) (results_tmp2 Tryz.results89 _ _ _ _ (by kernel_rfl) (by kernel_rfl)) (by kernel_rfl) (.inr ⟨[], if_pos c0, .inl ⟨rfl, rfl, below_grown M.old⟩⟩)
  · skip
    refine pl_val (want_no rfl) (some 16) rfl (.bool false) (fun w => Eq.trans (b := .ok (.value (.bool (s.toList == (⟨#[]⟩ : ByteArray).toList))) w) (by kernel_rfl) (by rw [seq_neg c0])) ?_
    refine pl_nil ?_
    refine au_then ?_
    refine wp_cond_false (by kernel_rfl) ?_
    refine wp_skip ?_
    refine au_then ?_
    refine wp_seq ?_
    refine rg_lit ?_
    refine pl_val (want_no rfl) (some 10) rfl (.slice none 0 0) (fun _ => by kernel_rfl) ?_
    refine pl_nil ?_
    refine au_then ?_
    refine wp_seq ?_
    refine wp_seq ?_
    refine rg_lit ?_
    refine pl_val (want_no rfl) (some 17) rfl (.string s) (fun _ => by kernel_rfl) ?_
    refine pl_val (want_no rfl) (some 18) rfl (.string sep) (fun _ => by kernel_rfl) ?_
    refine pl_calln M (want_no rfl) (some 19) rfl 107 #[.string s, .string sep] (fun g1 => .slice (some ⟨g1, 0, none⟩) (spl s sep).length (spl s sep).length) (.cells (av (spl s sep).length (fS (spl s sep))) 9) (fun _ => by kernel_rfl) (fun w M => c_Split s sep (by omega) h1 w M.laid) ?_
    intro g1 u1 M
    replace M : Mem ⟨w, []⟩ [⟨g1, .cells (av (spl s sep).length (fS (spl s sep))) 9⟩] u1 := M
    refine pl_val (want_no rfl) (some 20) rfl (.int .i64 (((spl s sep).length : Nat) : Int)) (fun _ => by kernel_rfl) ?_
    refine pl_val (want_no rfl) (some 21) rfl (.int .i64 0) (fun _ => by kernel_rfl) ?_
    refine pl_nil ?_
    refine au_then ?_
    refine wp_block ?_
    refine au_loop (fun j a w' => ∃ (v1 : Nat → Value) (tv : Value), a = ⟨#[.string s, .string sep, .int .i64 16, .int .i64 16, undef, undef, undef, undef, v1 8, v1 9, tv, undef, v1 12, v1 13, v1 14, .string s, .bool false, .string s, .string sep, .slice (some ⟨g1, 0, none⟩) (spl s sep).length (spl s sep).length, .int .i64 (((spl s sep).length : Nat) : Int), .int .i64 (j : Int), v1 22, v1 23, v1 24, v1 25, v1 26, v1 27, v1 28, v1 29, v1 30, v1 31, v1 32, v1 33, v1 34, v1 35, v1 36, v1 37, v1 38, undef], []⟩ ∧ nl 16 65535 (spl s sep) j = some (nlv 16 65535 (spl s sep) j) ∧ TS ⟨w, []⟩ [⟨g1, .cells (av (spl s sep).length (fS (spl s sep))) 9⟩] w' tv (nlv 16 65535 (spl s sep) j)) (spl s sep).length ⟨fun k_ => ([.slice none 0 0, .bool false, undef, undef, undef, undef, undef, undef, undef, undef, undef, undef, undef, undef, undef, undef, undef, undef, undef, undef, undef, undef, undef, undef, undef, undef, undef, undef, undef, undef, undef] : List Value).getD (k_ - 8) undef, _, by kernel_rfl, rfl, .inl ⟨rfl, rfl, M⟩⟩ ?_ ?_
    · intro j a u0 hj hI
      obtain ⟨v1, tv, rfl, hx, hT⟩ := hI
      rcases hT with ⟨hnil, rfl, M⟩ | ⟨g9, cap9, Z9, rfl, hZ9, M⟩
      · skip
        refine wp_seq ?_
        refine rg_lit ?_
        refine pl_val (want_no rfl) (some 22) rfl (.bool true) (fun w => Eq.trans (b := .ok (.value (.bool (decide ((j : Int) < (((spl s sep).length : Nat) : Int))))) w) (by kernel_rfl) (by rw [decide_eq_true (by omega)])) ?_
        refine pl_nil ?_
        refine au_then ?_
        refine wp_seq ?_
        refine wp_cond_true (by kernel_rfl) ?_
        refine wp_skip ?_
        refine au_then ?_
        refine wp_seq ?_
        refine wp_block ?_
        refine wp_seq ?_
        refine rg_lit ?_
        refine pl_val (want_no rfl) (some 23) rfl (.pointer (some ⟨g1, j, none⟩)) (run_ix0 72 9 Tryz.underlying72 inz9 _ _ rfl g1 ((spl s sep).length) ((spl s sep).length) (by kernel_rfl) .i64 j (by kernel_rfl) (by omega)) ?_
        refine pl_cell M (want_no rfl) (some 24) rfl 9 _ rfl g1 j (by kernel_rfl) (.string (tg (spl s sep) j)) (fun _ => by kernel_rfl) (fun w M => M.cell 0 rfl (by omega) rfl) ?_
        refine pl_val (want_no rfl) (some 12) rfl (.string (tg (spl s sep) j)) (fun _ => by kernel_rfl) ?_
        refine pl_nil ?_
        refine au_then ?_
        refine wp_seq ?_
        refine rg_lit ?_
        refine pl_val (want_no rfl) (some 26) rfl (.string (tg (spl s sep) j)) (fun _ => by kernel_rfl) ?_
        refine pl_val (want_no rfl) (some 27) rfl (.int .i64 16) (fun _ => by kernel_rfl) ?_
        refine pl_val (want_no rfl) (some 28) rfl (.int .i64 16) (fun _ => by kernel_rfl) ?_
        rcases Bool.eq_false_or_eq_true ((nmb 16 65535 (tg (spl s sep) j)).isSome) with c2 | c2
        · skip
          refine pl_call M (want_no rfl) (some 29) rfl 47 #[.string (tg (spl s sep) j), .int .i64 16, .int .i64 16] (.tuple #[.int .u16 ((nmb 16 65535 (tg (spl s sep) j)).getD 0), .bool true]) (fun _ => by kernel_rfl) (fun w M => call_val (c_number16 (tg (spl s sep) j) w M.laid) (by rw [c2])) ?_
          intro u2 M
          refine pl_val (want_no rfl) (some 25) rfl (.tuple #[.int .u16 ((nmb 16 65535 (tg (spl s sep) j)).getD 0), .bool true]) (fun _ => by kernel_rfl) ?_
          refine pl_val (want_no rfl) (some 30) rfl (.int .u16 ((nmb 16 65535 (tg (spl s sep) j)).getD 0)) (fun _ => by kernel_rfl) ?_
          refine pl_val (want_no rfl) (some 31) rfl (.bool true) (fun _ => by kernel_rfl) ?_
          refine pl_val (want_no rfl) (some 13) rfl (.int .u16 ((nmb 16 65535 (tg (spl s sep) j)).getD 0)) (fun _ => by kernel_rfl) ?_
          refine pl_val (want_no rfl) (some 14) rfl (.bool true) (fun _ => by kernel_rfl) ?_
          refine pl_nil ?_
          refine au_then ?_
          refine wp_seq ?_
          refine wp_seq ?_
          refine rg_lit ?_
          refine pl_val (want_no rfl) (some 32) rfl (.bool true) (fun _ => by kernel_rfl) ?_
          refine pl_val (want_no rfl) (some 33) rfl (.bool false) (fun _ => by kernel_rfl) ?_
          refine pl_nil ?_
          refine au_then ?_
          refine wp_cond_false (by kernel_rfl) ?_
          refine wp_skip ?_
          refine au_then ?_
          refine rg_lit ?_
          refine pl_val (want_no rfl) (some 34) rfl (.slice none 0 0) (fun _ => by kernel_rfl) ?_
          refine pl_val (want_no rfl) (some 35) rfl (.int .u16 ((nmb 16 65535 (tg (spl s sep) j)).getD 0)) (fun _ => by kernel_rfl) ?_
          refine pl_mk M (want_no rfl) (some 36) rfl (fun g2 => .slice (some ⟨g2, 0, none⟩) 1 1) (.cells (av 1 (fun _ => .int .u16 ((nmb 16 65535 (tg (spl s sep) j)).getD 0))) 32) (fun _ => by kernel_rfl) ?_
          intro g2 u3 M
          replace M : Mem ⟨w, []⟩ [⟨g1, .cells (av (spl s sep).length (fS (spl s sep))) 9⟩, ⟨g2, .cells (av 1 (fun _ => .int .u16 ((nmb 16 65535 (tg (spl s sep) j)).getD 0))) 32⟩] u3 := M
          refine pl_app0I M (want_no rfl) (some 37) rfl 99 99 32 (.int .u16 0) Tryz.underlying99 info32 rfl 1 g2 32 (.int .u16 ((nmb 16 65535 (tg (spl s sep) j)).getD 0)) rfl (fun _ => by kernel_rfl) ?_
          intro g8 cap8 Z8 u4 hZ8 M
          replace M : Mem ⟨w, []⟩ [⟨g1, .cells (av (spl s sep).length (fS (spl s sep))) 9⟩, ⟨g2, .cells (av 1 (fun _ => .int .u16 ((nmb 16 65535 (tg (spl s sep) j)).getD 0))) 32⟩, ⟨g8, Z8⟩] u4 := M
          refine pl_val (want_no rfl) (some 10) rfl (.slice (some ⟨g8, 0, none⟩) 1 cap8) (fun _ => by kernel_rfl) ?_
          refine pl_nil ?_
          refine au_block ?_
          refine au_then ?_
          refine rg_lit ?_
          refine pl_val (want_no rfl) (some 38) rfl (.int .i64 ((j + 1 : Nat) : Int)) (fun w => Eq.trans (b := .ok (.value (.int .i64 (IntKind.wrap .i64 ((j : Int) + 1)))) w) (by kernel_rfl) (by rw [wrap64 (by omega) (by omega)]; congr 3)) ?_
          refine pl_val (want_no rfl) (some 21) rfl (.int .i64 ((j + 1 : Nat) : Int)) (fun _ => by kernel_rfl) ?_
          refine pl_nil ?_
          refine au_then ?_
          have hy := nl_ok hx c2
          have hz : nlv 16 65535 (spl s sep) (j + 1) = (nlv 16 65535 (spl s sep) j) ++ [(nmb 16 65535 (tg (spl s sep) j)).getD 0] := by unfold nlv; rw [hy]; rfl
          exact ⟨fun k_ => ([v1 8, v1 9, undef, undef, .string (tg (spl s sep) j), .int .u16 ((nmb 16 65535 (tg (spl s sep) j)).getD 0), .bool true, undef, undef, undef, undef, undef, undef, undef, .bool true, .pointer (some ⟨g1, j, none⟩), .string (tg (spl s sep) j), .tuple #[.int .u16 ((nmb 16 65535 (tg (spl s sep) j)).getD 0), .bool true], .string (tg (spl s sep) j), .int .i64 16, .int .i64 16, .tuple #[.int .u16 ((nmb 16 65535 (tg (spl s sep) j)).getD 0), .bool true], .int .u16 ((nmb 16 65535 (tg (spl s sep) j)).getD 0), .bool true, .bool true, .bool false, .slice none 0 0, .int .u16 ((nmb 16 65535 (tg (spl s sep) j)).getD 0), .slice (some ⟨g2, 0, none⟩) 1 1, .slice (some ⟨g8, 0, none⟩) 1 cap8, .int .i64 ((j + 1 : Nat) : Int)] : List Value).getD (k_ - 8) undef, .slice (some ⟨g8, 0, none⟩) 1 cap8, by kernel_rfl, by rw [hz]; exact hy, .inr ⟨g8, cap8, Z8, by rw [hz, hnil]; rfl, by rw [hz, hnil]; exact hZ8, M.drop (.cons_cons _ (.cons _ (.cons_cons _ .slnil)))⟩⟩
        · skip
          refine pl_call M (want_no rfl) (some 29) rfl 47 #[.string (tg (spl s sep) j), .int .i64 16, .int .i64 16] (.tuple #[.int .u16 ((nmb 16 65535 (tg (spl s sep) j)).getD 0), .bool false]) (fun _ => by kernel_rfl) (fun w M => call_val (c_number16 (tg (spl s sep) j) w M.laid) (by rw [c2])) ?_
          intro u2 M
          refine pl_val (want_no rfl) (some 25) rfl (.tuple #[.int .u16 ((nmb 16 65535 (tg (spl s sep) j)).getD 0), .bool false]) (fun _ => by kernel_rfl) ?_
          refine pl_val (want_no rfl) (some 30) rfl (.int .u16 ((nmb 16 65535 (tg (spl s sep) j)).getD 0)) (fun _ => by kernel_rfl) ?_
          refine pl_val (want_no rfl) (some 31) rfl (.bool false) (fun _ => by kernel_rfl) ?_
          refine pl_val (want_no rfl) (some 13) rfl (.int .u16 ((nmb 16 65535 (tg (spl s sep) j)).getD 0)) (fun _ => by kernel_rfl) ?_
          refine pl_val (want_no rfl) (some 14) rfl (.bool false) (fun _ => by kernel_rfl) ?_
          refine pl_nil ?_
          refine au_then ?_
          refine wp_seq ?_
          refine wp_seq ?_
          refine rg_lit ?_
          refine pl_val (want_no rfl) (some 32) rfl (.bool false) (fun _ => by kernel_rfl) ?_
          refine pl_val (want_no rfl) (some 33) rfl (.bool true) (fun _ => by kernel_rfl) ?_
          refine pl_nil ?_
          refine au_then ?_
          refine wp_cond_true (by kernel_rfl) ?_
          refine wp_seq ?_
          refine rg_lit ?_
          refine pl_val (want_no rfl) (some 8) rfl (.slice none 0 0) (fun _ => by kernel_rfl) ?_
          refine pl_val (want_no rfl) (some 9) rfl (.bool false) (fun _ => by kernel_rfl) ?_
          refine pl_nil ?_
          refine au_then ?_
          refine wp_ret ?_
          refine au_then_ret ?_
          refine au_block_ret ?_
          refine au_then_ret ?_
          refine au_then_ret ?_
          refine au_block_ret ?_
          refine au_then_ret ?_
          exact bodyPost_ret (v := .tuple #[.slice none 0 0, .bool false]) (results_tmp2 Tryz.results89 _ _ _ _ (by kernel_rfl) (by kernel_rfl)) (by kernel_rfl) (.inl ⟨nl_bad c0 hj hx c2, rfl, below_grown M.old⟩)
      · skip
        refine wp_seq ?_
        refine rg_lit ?_
        refine pl_val (want_no rfl) (some 22) rfl (.bool true) (fun w => Eq.trans (b := .ok (.value (.bool (decide ((j : Int) < (((spl s sep).length : Nat) : Int))))) w) (by kernel_rfl) (by rw [decide_eq_true (by omega)])) ?_
        refine pl_nil ?_
        refine au_then ?_
        refine wp_seq ?_
        refine wp_cond_true (by kernel_rfl) ?_
        refine wp_skip ?_
        refine au_then ?_
        refine wp_seq ?_
        refine wp_block ?_
        refine wp_seq ?_
        refine rg_lit ?_
        refine pl_val (want_no rfl) (some 23) rfl (.pointer (some ⟨g1, j, none⟩)) (run_ix0 72 9 Tryz.underlying72 inz9 _ _ rfl g1 ((spl s sep).length) ((spl s sep).length) (by kernel_rfl) .i64 j (by kernel_rfl) (by omega)) ?_
        refine pl_cell M (want_no rfl) (some 24) rfl 9 _ rfl g1 j (by kernel_rfl) (.string (tg (spl s sep) j)) (fun _ => by kernel_rfl) (fun w M => M.cell 0 rfl (by omega) rfl) ?_
        refine pl_val (want_no rfl) (some 12) rfl (.string (tg (spl s sep) j)) (fun _ => by kernel_rfl) ?_
        refine pl_nil ?_
        refine au_then ?_
        refine wp_seq ?_
        refine rg_lit ?_
        refine pl_val (want_no rfl) (some 26) rfl (.string (tg (spl s sep) j)) (fun _ => by kernel_rfl) ?_
        refine pl_val (want_no rfl) (some 27) rfl (.int .i64 16) (fun _ => by kernel_rfl) ?_
        refine pl_val (want_no rfl) (some 28) rfl (.int .i64 16) (fun _ => by kernel_rfl) ?_
        rcases Bool.eq_false_or_eq_true ((nmb 16 65535 (tg (spl s sep) j)).isSome) with c2 | c2
        · skip
          refine pl_call M (want_no rfl) (some 29) rfl 47 #[.string (tg (spl s sep) j), .int .i64 16, .int .i64 16] (.tuple #[.int .u16 ((nmb 16 65535 (tg (spl s sep) j)).getD 0), .bool true]) (fun _ => by kernel_rfl) (fun w M => call_val (c_number16 (tg (spl s sep) j) w M.laid) (by rw [c2])) ?_
          intro u2 M
          refine pl_val (want_no rfl) (some 25) rfl (.tuple #[.int .u16 ((nmb 16 65535 (tg (spl s sep) j)).getD 0), .bool true]) (fun _ => by kernel_rfl) ?_
          refine pl_val (want_no rfl) (some 30) rfl (.int .u16 ((nmb 16 65535 (tg (spl s sep) j)).getD 0)) (fun _ => by kernel_rfl) ?_
          refine pl_val (want_no rfl) (some 31) rfl (.bool true) (fun _ => by kernel_rfl) ?_
          refine pl_val (want_no rfl) (some 13) rfl (.int .u16 ((nmb 16 65535 (tg (spl s sep) j)).getD 0)) (fun _ => by kernel_rfl) ?_
          refine pl_val (want_no rfl) (some 14) rfl (.bool true) (fun _ => by kernel_rfl) ?_
          refine pl_nil ?_
          refine au_then ?_
          refine wp_seq ?_
          refine wp_seq ?_
          refine rg_lit ?_
          refine pl_val (want_no rfl) (some 32) rfl (.bool true) (fun _ => by kernel_rfl) ?_
          refine pl_val (want_no rfl) (some 33) rfl (.bool false) (fun _ => by kernel_rfl) ?_
          refine pl_nil ?_
          refine au_then ?_
          refine wp_cond_false (by kernel_rfl) ?_
          refine wp_skip ?_
          refine au_then ?_
          refine rg_lit ?_
          refine pl_val (want_no rfl) (some 34) rfl (.slice (some ⟨g9, 0, none⟩) (nlv 16 65535 (spl s sep) j).length cap9) (fun _ => by kernel_rfl) ?_
          refine pl_val (want_no rfl) (some 35) rfl (.int .u16 ((nmb 16 65535 (tg (spl s sep) j)).getD 0)) (fun _ => by kernel_rfl) ?_
          refine pl_mk M (want_no rfl) (some 36) rfl (fun g2 => .slice (some ⟨g2, 0, none⟩) 1 1) (.cells (av 1 (fun _ => .int .u16 ((nmb 16 65535 (tg (spl s sep) j)).getD 0))) 32) (fun _ => by kernel_rfl) ?_
          intro g2 u3 M
          replace M : Mem ⟨w, []⟩ [⟨g1, .cells (av (spl s sep).length (fS (spl s sep))) 9⟩, ⟨g9, Z9⟩, ⟨g2, .cells (av 1 (fun _ => .int .u16 ((nmb 16 65535 (tg (spl s sep) j)).getD 0))) 32⟩] u3 := M
          refine pl_appI M (want_no rfl) (some 37) rfl 99 99 32 (.int .u16 0) Tryz.underlying99 info32 rfl 1 g9 ((nlv 16 65535 (spl s sep) j).length) cap9 Z9 (v16 (nlv 16 65535 (spl s sep) j)) rfl hZ9 (v16_len _) (hlen _ hx hj) 2 g2 32 (.int .u16 ((nmb 16 65535 (tg (spl s sep) j)).getD 0)) rfl rfl (fun _ => by kernel_rfl) ?_
          intro g8 cap8 Z8 u4 hZ8 M
          replace M : Mem ⟨w, []⟩ [⟨g1, .cells (av (spl s sep).length (fS (spl s sep))) 9⟩, ⟨g2, .cells (av 1 (fun _ => .int .u16 ((nmb 16 65535 (tg (spl s sep) j)).getD 0))) 32⟩, ⟨g8, Z8⟩] u4 := M
          refine pl_val (want_no rfl) (some 10) rfl (.slice (some ⟨g8, 0, none⟩) ((nlv 16 65535 (spl s sep) j).length + 1) cap8) (fun _ => by kernel_rfl) ?_
          refine pl_nil ?_
          refine au_block ?_
          refine au_then ?_
          refine rg_lit ?_
          refine pl_val (want_no rfl) (some 38) rfl (.int .i64 ((j + 1 : Nat) : Int)) (fun w => Eq.trans (b := .ok (.value (.int .i64 (IntKind.wrap .i64 ((j : Int) + 1)))) w) (by kernel_rfl) (by rw [wrap64 (by omega) (by omega)]; congr 3)) ?_
          refine pl_val (want_no rfl) (some 21) rfl (.int .i64 ((j + 1 : Nat) : Int)) (fun _ => by kernel_rfl) ?_
          refine pl_nil ?_
          refine au_then ?_
          have hy := nl_ok hx c2
          have hz : nlv 16 65535 (spl s sep) (j + 1) = (nlv 16 65535 (spl s sep) j) ++ [(nmb 16 65535 (tg (spl s sep) j)).getD 0] := by unfold nlv; rw [hy]; rfl
          exact ⟨fun k_ => ([v1 8, v1 9, undef, undef, .string (tg (spl s sep) j), .int .u16 ((nmb 16 65535 (tg (spl s sep) j)).getD 0), .bool true, undef, undef, undef, undef, undef, undef, undef, .bool true, .pointer (some ⟨g1, j, none⟩), .string (tg (spl s sep) j), .tuple #[.int .u16 ((nmb 16 65535 (tg (spl s sep) j)).getD 0), .bool true], .string (tg (spl s sep) j), .int .i64 16, .int .i64 16, .tuple #[.int .u16 ((nmb 16 65535 (tg (spl s sep) j)).getD 0), .bool true], .int .u16 ((nmb 16 65535 (tg (spl s sep) j)).getD 0), .bool true, .bool true, .bool false, .slice (some ⟨g9, 0, none⟩) (nlv 16 65535 (spl s sep) j).length cap9, .int .u16 ((nmb 16 65535 (tg (spl s sep) j)).getD 0), .slice (some ⟨g2, 0, none⟩) 1 1, .slice (some ⟨g8, 0, none⟩) ((nlv 16 65535 (spl s sep) j).length + 1) cap8, .int .i64 ((j + 1 : Nat) : Int)] : List Value).getD (k_ - 8) undef, .slice (some ⟨g8, 0, none⟩) ((nlv 16 65535 (spl s sep) j).length + 1) cap8, by kernel_rfl, by rw [hz]; exact hy, .inr ⟨g8, cap8, Z8, by rw [hz, List.length_append]; rfl, by rw [hz, v16_app]; exact hZ8, M.drop (.cons_cons _ (.cons _ (.cons_cons _ .slnil)))⟩⟩
        · skip
          refine pl_call M (want_no rfl) (some 29) rfl 47 #[.string (tg (spl s sep) j), .int .i64 16, .int .i64 16] (.tuple #[.int .u16 ((nmb 16 65535 (tg (spl s sep) j)).getD 0), .bool false]) (fun _ => by kernel_rfl) (fun w M => call_val (c_number16 (tg (spl s sep) j) w M.laid) (by rw [c2])) ?_
          intro u2 M
          refine pl_val (want_no rfl) (some 25) rfl (.tuple #[.int .u16 ((nmb 16 65535 (tg (spl s sep) j)).getD 0), .bool false]) (fun _ => by kernel_rfl) ?_
          refine pl_val (want_no rfl) (some 30) rfl (.int .u16 ((nmb 16 65535 (tg (spl s sep) j)).getD 0)) (fun _ => by kernel_rfl) ?_
          refine pl_val (want_no rfl) (some 31) rfl (.bool false) (fun _ => by kernel_rfl) ?_
          refine pl_val (want_no rfl) (some 13) rfl (.int .u16 ((nmb 16 65535 (tg (spl s sep) j)).getD 0)) (fun _ => by kernel_rfl) ?_
          refine pl_val (want_no rfl) (some 14) rfl (.bool false) (fun _ => by kernel_rfl) ?_
          refine pl_nil ?_
          refine au_then ?_
          refine wp_seq ?_
          refine wp_seq ?_
          refine rg_lit ?_
          refine pl_val (want_no rfl) (some 32) rfl (.bool false) (fun _ => by kernel_rfl) ?_
          refine pl_val (want_no rfl) (some 33) rfl (.bool true) (fun _ => by kernel_rfl) ?_
          refine pl_nil ?_
          refine au_then ?_
          refine wp_cond_true (by kernel_rfl) ?_
          refine wp_seq ?_
          refine rg_lit ?_
          refine pl_val (want_no rfl) (some 8) rfl (.slice none 0 0) (fun _ => by kernel_rfl) ?_
          refine pl_val (want_no rfl) (some 9) rfl (.bool false) (fun _ => by kernel_rfl) ?_
          refine pl_nil ?_
          refine au_then ?_
          refine wp_ret ?_
          refine au_then_ret ?_
          refine au_block_ret ?_
          refine au_then_ret ?_
          refine au_then_ret ?_
          refine au_block_ret ?_
          refine au_then_ret ?_
          exact bodyPost_ret (v := .tuple #[.slice none 0 0, .bool false]) (results_tmp2 Tryz.results89 _ _ _ _ (by kernel_rfl) (by kernel_rfl)) (by kernel_rfl) (.inl ⟨nl_bad c0 hj hx c2, rfl, below_grown M.old⟩)
    · intro a u0 hI
      obtain ⟨v1, tv, rfl, hx, hT⟩ := hI
      rcases hT with ⟨hnil, rfl, M⟩ | ⟨g9, cap9, Z9, rfl, hZ9, M⟩
      · skip
        refine wp_seq ?_
        refine rg_lit ?_
        refine pl_val (want_no rfl) (some 22) rfl (.bool false) (fun w => Eq.trans (b := .ok (.value (.bool (decide ((((spl s sep).length : Nat) : Int) < (((spl s sep).length : Nat) : Int))))) w) (by kernel_rfl) (by rw [decide_eq_false (by omega)])) ?_
        refine pl_nil ?_
        refine au_then ?_
        refine wp_seq ?_
        refine wp_cond_false (by kernel_rfl) ?_
        refine wp_exit ?_
        refine au_then_exit ?_
        refine au_then_exit ?_
        refine au_block_exit ?_
        refine au_then ?_
        refine wp_seq ?_
        refine rg_lit ?_
        refine pl_val (want_no rfl) (some 39) rfl (.slice none 0 0) (fun _ => by kernel_rfl) ?_
        refine pl_val (want_no rfl) (some 8) rfl (.slice none 0 0) (fun _ => by kernel_rfl) ?_
        refine pl_val (want_no rfl) (some 9) rfl (.bool true) (fun _ => by kernel_rfl) ?_
        refine pl_nil ?_
        refine au_then ?_
        refine wp_ret ?_
        exact bodyPost_ret (v := .tuple #[.slice none 0 0, .bool true]) (results_tmp2 Tryz.results89 _ _ _ _ (by kernel_rfl) (by kernel_rfl)) (by kernel_rfl) (.inr ⟨_, (show nbs 16 65535 s sep = some (nlv 16 65535 (spl s sep) ((spl s sep).length)) by unfold nbs; rw [if_neg c0]; exact hx), .inl ⟨hnil, rfl, below_grown M.old⟩⟩)
      · skip
        refine wp_seq ?_
        refine rg_lit ?_
        refine pl_val (want_no rfl) (some 22) rfl (.bool false) (fun w => Eq.trans (b := .ok (.value (.bool (decide ((((spl s sep).length : Nat) : Int) < (((spl s sep).length : Nat) : Int))))) w) (by kernel_rfl) (by rw [decide_eq_false (by omega)])) ?_
        refine pl_nil ?_
        refine au_then ?_
        refine wp_seq ?_
        refine wp_cond_false (by kernel_rfl) ?_
        refine wp_exit ?_
        refine au_then_exit ?_
        refine au_then_exit ?_
        refine au_block_exit ?_
        refine au_then ?_
        refine wp_seq ?_
        refine rg_lit ?_
        refine pl_val (want_no rfl) (some 39) rfl (.slice (some ⟨g9, 0, none⟩) (nlv 16 65535 (spl s sep) ((spl s sep).length)).length cap9) (fun _ => by kernel_rfl) ?_
        refine pl_val (want_no rfl) (some 8) rfl (.slice (some ⟨g9, 0, none⟩) (nlv 16 65535 (spl s sep) ((spl s sep).length)).length cap9) (fun _ => by kernel_rfl) ?_
        refine pl_val (want_no rfl) (some 9) rfl (.bool true) (fun _ => by kernel_rfl) ?_
        refine pl_nil ?_
        refine au_then ?_
        refine wp_ret ?_
        exact bodyPost_ret (v := .tuple #[.slice (some ⟨g9, 0, none⟩) (nlv 16 65535 (spl s sep) ((spl s sep).length)).length cap9, .bool true]) (results_tmp2 Tryz.results89 _ _ _ _ (by kernel_rfl) (by kernel_rfl)) (by kernel_rfl) (.inr ⟨_, (show nbs 16 65535 s sep = some (nlv 16 65535 (spl s sep) ((spl s sep).length)) by unfold nbs; rw [if_neg c0]; exact hx), .inr ⟨fun e => by have h2 := nl_len hx; rw [e] at h2; have h3 := spl_len s sep h1; simp at h2; omega, g9, cap9, Z9, rfl, M.geAt 1 rfl, M.get 1 rfl, hZ9, below_grown M.old⟩⟩)

theorem c_nums10N (s sep : ByteArray) (hs : s.size ≤ 1000) (h1 : 1 ≤ sep.size) (h : nbs 10 255 s sep = none) (w : World) (hL : Laid w) : Calls Tryz.prog 89 #[.string s, .string sep, .int .i64 10, .int .i64 8] w fun r w' => r = .returned (.tuple #[.slice none 0 0, .bool false]) ∧ Below w.heap.size w w' :=
  (c_nums10 s sep hs h1 w hL).mono fun _ _ hp => by
    rcases hp with ⟨_, h2, h3⟩ | ⟨l, hl, _⟩
    · exact ⟨h2, h3⟩
    · rw [h] at hl
      cases hl
theorem c_nums10E (s sep : ByteArray) (hs : s.size ≤ 1000) (h1 : 1 ≤ sep.size) (h : nbs 10 255 s sep = some []) (w : World) (hL : Laid w) : Calls Tryz.prog 89 #[.string s, .string sep, .int .i64 10, .int .i64 8] w fun r w' => r = .returned (.tuple #[.slice none 0 0, .bool true]) ∧ Below w.heap.size w w' :=
  (c_nums10 s sep hs h1 w hL).mono fun _ _ hp => by
    rcases hp with ⟨h0, _⟩ | ⟨l, hl, hp⟩
    · rw [h] at h0
      cases h0
    · rw [h] at hl
      cases hl
      rcases hp with ⟨_, h2, h3⟩ | ⟨hn, _⟩
      · exact ⟨h2, h3⟩
      · exact absurd rfl hn
theorem c_nums10L (s sep : ByteArray) (hs : s.size ≤ 1000) (h1 : 1 ≤ sep.size) (l : List Int) (hn : l ≠ []) (h : nbs 10 255 s sep = some l) (w : World) (hL : Laid w) : Calls Tryz.prog 89 #[.string s, .string sep, .int .i64 10, .int .i64 8] w fun r w' => ∃ g cap Z, r = .returned (.tuple #[.slice (some ⟨g, 0, none⟩) l.length cap, .bool true]) ∧ w.heap.size ≤ g ∧ w'.heap[g]? = some Z ∧ SB Z cap (v16 l) ∧ Below w.heap.size w w' :=
  (c_nums10 s sep hs h1 w hL).mono fun _ _ hp => by
    rcases hp with ⟨h0, _⟩ | ⟨l', hl, hp⟩
    · rw [h] at h0
      cases h0
    · rw [h] at hl
      cases hl
      rcases hp with ⟨h2, _⟩ | ⟨_, hp⟩
      · exact absurd h2 hn
      · exact hp
theorem c_nums16N (s sep : ByteArray) (hs : s.size ≤ 1000) (h1 : 1 ≤ sep.size) (h : nbs 16 65535 s sep = none) (w : World) (hL : Laid w) : Calls Tryz.prog 89 #[.string s, .string sep, .int .i64 16, .int .i64 16] w fun r w' => r = .returned (.tuple #[.slice none 0 0, .bool false]) ∧ Below w.heap.size w w' :=
  (c_nums16 s sep hs h1 w hL).mono fun _ _ hp => by
    rcases hp with ⟨_, h2, h3⟩ | ⟨l, hl, _⟩
    · exact ⟨h2, h3⟩
    · rw [h] at hl
      cases hl
theorem c_nums16E (s sep : ByteArray) (hs : s.size ≤ 1000) (h1 : 1 ≤ sep.size) (h : nbs 16 65535 s sep = some []) (w : World) (hL : Laid w) : Calls Tryz.prog 89 #[.string s, .string sep, .int .i64 16, .int .i64 16] w fun r w' => r = .returned (.tuple #[.slice none 0 0, .bool true]) ∧ Below w.heap.size w w' :=
  (c_nums16 s sep hs h1 w hL).mono fun _ _ hp => by
    rcases hp with ⟨h0, _⟩ | ⟨l, hl, hp⟩
    · rw [h] at h0
      cases h0
    · rw [h] at hl
      cases hl
      rcases hp with ⟨_, h2, h3⟩ | ⟨hn, _⟩
      · exact ⟨h2, h3⟩
      · exact absurd rfl hn
theorem c_nums16L (s sep : ByteArray) (hs : s.size ≤ 1000) (h1 : 1 ≤ sep.size) (l : List Int) (hn : l ≠ []) (h : nbs 16 65535 s sep = some l) (w : World) (hL : Laid w) : Calls Tryz.prog 89 #[.string s, .string sep, .int .i64 16, .int .i64 16] w fun r w' => ∃ g cap Z, r = .returned (.tuple #[.slice (some ⟨g, 0, none⟩) l.length cap, .bool true]) ∧ w.heap.size ≤ g ∧ w'.heap[g]? = some Z ∧ SB Z cap (v16 l) ∧ Below w.heap.size w w' :=
  (c_nums16 s sep hs h1 w hL).mono fun _ _ hp => by
    rcases hp with ⟨h0, _⟩ | ⟨l', hl, hp⟩
    · rw [h] at h0
      cases h0
    · rw [h] at hl
      cases hl
      rcases hp with ⟨h2, _⟩ | ⟨_, hp⟩
      · exact absurd h2 hn
      · exact hp

end Go.Proofs.YtndonmdgplojnaaGreatDoor
